import Derived.Test.YtfjafncipjdnfaaGreatNodesSpec
import Derived.Laws.ResultCell
import Derived.Test.YtfjafncipjdnfaaGreatRowInt
import Derived.Maps.RangeWalk
import Derived.Deep.AppendLies
namespace Go.Proofs.YtfjafncipjdnfaaGreat
open Go.ChangeShapes Go.WideShapes Go.ChangeAt Go.RowKit
set_option linter.unusedVariables false
set_option linter.unusedSimpArgs false
def NC (l : List Int) (i : Nat) : Int := (l[i]?).getD 0
def tC (l : List Int) (n : Int) : List Value := [.int .i64 (NC l 0), .int .i64 (NC l 1), .int .i64 (NC l 2), .int .i64 (NC l 3), .int .i64 (NC l 4), .int .i64 (NC l 5), .int .i64 n]
def ptA (l : List Int) (n : Int) : Value := .agg #[.int .i64 (NC l 0), .int .i64 (NC l 1), .int .i64 (NC l 2), .int .i64 (NC l 3), .int .i64 (NC l 4), .int .i64 (NC l 5), .int .i64 n]
def lP (l : List Int) : Value := ptA l l.length
def SF (l : List Int) : Bool := XA (l.length : Int) 1 6
@[simp] theorem gP (i : Nat) : NC [] i = 0 := rfl
theorem YM {l : List Int} {k : Nat} {x : Int} (h : l[k]? = some x) : NC l k = x := by simp [NC, h]
theorem ZN (l : List Int) (k i : Nat) : NC (l.take k) i = if i < k then NC l i else 0 := by
  simp only [NC, List.getElem?_take]
  split <;> rfl
theorem tP {l : List Int} {k : Nat} {x n : Int} (h : l[k]? = some x) (hk : k < 6) : (tC (l.take k) n).set k (.int .i64 x) = tC (l.take (k + 1)) n := by
  have hx := YM h
  rcases (show k = 0 ∨ k = 1 ∨ k = 2 ∨ k = 3 ∨ k = 4 ∨ k = 5 by omega) with rfl | rfl | rfl | rfl | rfl | rfl <;> simp [tC, ZN, hx]
theorem xF {w : World} {g : Nat} {t : TypeId} {l : List Int} {n : Int} (h : Blk w g t (tC l n)) : w.cell? ⟨g, 0, none⟩ = some (.int .i64 (NC l 0)) ∧ w.cell? ⟨g, 1, none⟩ = some (.int .i64 (NC l 1)) ∧ w.cell? ⟨g, 2, none⟩ = some (.int .i64 (NC l 2)) ∧ w.cell? ⟨g, 3, none⟩ = some (.int .i64 (NC l 3)) ∧ w.cell? ⟨g, 4, none⟩ = some (.int .i64 (NC l 4)) ∧ w.cell? ⟨g, 5, none⟩ = some (.int .i64 (NC l 5)) ∧ w.cell? ⟨g, 6, none⟩ = some (.int .i64 n) ∧ ∀ i, w.frozen? ⟨g, i, none⟩ = false :=
  ⟨h.cell 0, h.cell 1, h.cell 2, h.cell 3, h.cell 4, h.cell 5, h.cell 6, fun i => h.free i⟩
def aO (w : World) (g : Nat) (l : List Int) (n : Int) : World := ((((((w.setCell ⟨g, 0, none⟩ (.int .i64 (NC l 0))).setCell ⟨g, 1, none⟩ (.int .i64 (NC l 1))).setCell ⟨g, 2, none⟩ (.int .i64 (NC l 2))).setCell ⟨g, 3, none⟩ (.int .i64 (NC l 3))).setCell ⟨g, 4, none⟩ (.int .i64 (NC l 4))).setCell ⟨g, 5, none⟩ (.int .i64 (NC l 5))).setCell ⟨g, 6, none⟩ (.int .i64 n)
theorem vG {w : World} {g : Nat} {t : TypeId} {l l' : List Int} {n n' : Int} (h : Blk w g t (tC l' n')) : Blk (aO w g l n) g t (tC l n) :=
  ((((((h.set 0 (.int .i64 (NC l 0))).set 1 (.int .i64 (NC l 1))).set 2 (.int .i64 (NC l 2))).set 3 (.int .i64 (NC l 3))).set 4 (.int .i64 (NC l 4))).set 5 (.int .i64 (NC l 5))).set 6 (.int .i64 n)
theorem gF {B : Nat} {w0 w : World} {g : Nat} (h : Below B w0 w) (hB : B ≤ g) (l : List Int) (n : Int) : Below B w0 (aO w g l n) :=
  ((((((h.setCell (p := ⟨g, 0, none⟩) hB _).setCell (p := ⟨g, 1, none⟩) hB _).setCell (p := ⟨g, 2, none⟩) hB _).setCell (p := ⟨g, 3, none⟩) hB _).setCell (p := ⟨g, 4, none⟩) hB _).setCell (p := ⟨g, 5, none⟩) hB _).setCell (p := ⟨g, 6, none⟩) hB _
theorem XO : (Tryz.prog.info? 132).map (fun i => i.size) = some 7 := by kernel_rfl
theorem UE {fn : Func} {p u : Tmp} (h : fn.results = #[.cell p 132, .tmp u]) {tmps : Array Value} {w : World} {g : Nat} {t : TypeId} {l : List Int} {n : Int} (hp : tmps.getD p undef = .pointer (some ⟨g, 0, none⟩)) (hg : Blk w g t (tC l n)) :
    (results fn tmps).run Tryz.prog w = .ok (.tuple #[ptA l n, tmps.getD u undef]) w := by
  rw [results_cell_tmp h, hp]
  simp [asAddr, run_loadVar_row (P := Tryz.prog) w g t 132 (tC l n).toArray (0, 0) _ hg Tryz.underlying132 rfl XO, Result.andThen]
  rfl
def PadTo (w : World) (l : List Int) (k : Nat) (wr : World) : Prop := Below w.heap.size w wr ∧ Blk wr w.heap.size 132 (tC [] 0) ∧ Blk wr (w.heap.size + 1) 132 (tC (l.take k) l.length)
theorem PadTo.room {w : World} {l : List Int} {k : Nat} {wr : World} (h : PadTo w l k wr) (hk : k < 6) : ∃ x0, wr.cell? ⟨w.heap.size + 1, k, none⟩ = some x0 ∧ wr.frozen? ⟨w.heap.size + 1, k, none⟩ = false := by
  have := h.2.2.cell k
  rw [List.getElem?_eq_getElem (by simp [tC]; omega)] at this
  exact ⟨_, this, h.2.2.free k⟩
theorem PadTo.step {w : World} {l : List Int} {k : Nat} {wr : World} {x : Int} (h : PadTo w l k wr) (hx : l[k]? = some x) (hk : k < 6) : PadTo w l (k + 1) (wr.setCell ⟨w.heap.size + 1, k, none⟩ (.int .i64 x)) := by
  obtain ⟨h1, h2, h3⟩ := h
  refine ⟨h1.setCell (by simp) _, (But.set _ _ _ _).blk h2 (by omega), ?_⟩
  have := h3.set k (.int .i64 x)
  rwa [tP hx hk] at this
set_option maxRecDepth 100000 in
set_option maxHeartbeats 2000000 in
theorem KI (v : Value) (l : List Int) (w : World) (h : SlI w v l) (hl : l.length ≤ 1048576) :
    Calls Tryz.prog 141 #[v] w fun e w' => e = .returned (.tuple #[if SF l then lP l else lP [], .bool (SF l)]) ∧ Below w.heap.size w w' := by
  rcases Bool.eq_false_or_eq_true (SF l) with hs | hs
  · have hs' := PC hs
    have hne : l ≠ [] := by intro e; subst e; simp at hs'
    obtain ⟨b1, o1, c1, rfl, k1, m1, s1, H1⟩ := h.at hne
    unfold maxLen at m1
    have HS := Lib.hid hs
    clear h
    rw [hs, if_pos rfl]
    clear hs
    go_enter Tryz.func141, Tryz.ntmps141
    go_wp2_with fail
    refine (LB _ _ _ _).mono ?_
    rintro e w1 ⟨rfl, rfl⟩
    rw [show XA (l.length : Int) 1 6 = true from HS.out]
    go_wp2
    go_loopw [18] (fun i wr => ∃ k : Nat, k ≤ l.length ∧ i = .int .i64 k ∧ PadTo w l k wr) (fun i _ => l.length - (intOf i).toNat)
    case atStart =>
      refine ⟨0, Nat.zero_le _, rfl, ?_, ?_, ?_⟩
      · exact ((Below.refl _ _).alloc (Nat.le_refl _) _).alloc (by simp) _
      · exact Blk.below (B := w.heap.size + 1) (heap_alloc_new w _) ((Below.refl _ _).alloc (by simp) _) (by omega)
      · have := heap_alloc_new (w.alloc (.cells (tC [] 0).toArray 132)) (.cells (tC [] l.length).toArray 132)
        simpa [Blk, tC] using this
    case round =>
      obtain ⟨k, hk, rfl, hP⟩ := hrel
      by_cases hlt : k < l.length
      · obtain ⟨n, hg⟩ : ∃ n, l[k]? = some n := ⟨_, List.getElem?_eq_getElem hlt⟩
        have A1 : wr.cell? ⟨b1, o1 + k, none⟩ = some (.int .i64 n) := (hP.1.cell (p := ⟨b1, o1 + k, none⟩) s1).trans (H1 k n hg)
        have j0 : (0 : Int) ≤ (k : Int) := by omega
        have j1 : (k : Int) < (l.length : Int) := by omega
        have j2 : (k : Int) < 6 := by omega
        have j3 : k < 6 := by omega
        obtain ⟨x0, y0, yf⟩ := hP.room j3
        have HH := Lib.hid (And.intro hP hg)
        clear hP hg H1
        go_wp2
        exact ⟨⟨k + 1, by omega, by go_num, HH.out.1.step HH.out.2 j3⟩, by simp [intOf]; omega⟩
      · obtain rfl : k = l.length := by omega
        obtain ⟨z0, z1, z2, z3, z4, z5, z6, zf⟩ := xF hP.2.1
        obtain ⟨y0, y1, y2, y3, y4, y5, y6, yf⟩ := xF hP.2.2
        rw [List.take_length] at y0 y1 y2 y3 y4 y5
        have HP := Lib.hid hP
        clear H1 hP
        go_wp2
        exact bodyPost_ret (UE rfl rfl (vG (n := l.length) HP.out.2.1)) rfl ⟨rfl, gF HP.out.1 (Nat.le_refl _) l l.length⟩
  · obtain ⟨a, c, rfl, k1, m1⟩ : ∃ a c, v = .slice a l.length c ∧ l.length ≤ c ∧ c ≤ maxLen := by
      obtain ⟨a, c, rfl, k1, m1, -⟩ := h
      exact ⟨a, c, rfl, k1, m1⟩
    clear h
    have HS := Lib.hid hs
    rw [hs, if_neg (by simp)]
    clear hs
    go_enter Tryz.func141, Tryz.ntmps141
    go_wp2_with fail
    refine (LB _ _ _ _).mono ?_
    rintro e w1 ⟨rfl, rfl⟩
    rw [show XA (l.length : Int) 1 6 = false from HS.out]
    go_wp2
    exact bodyPost_ret (UE (l := []) (n := 0) rfl rfl (heap_alloc_new w _)) rfl ⟨rfl, (Below.refl _ _).alloc (Nat.le_refl _) _⟩
def cC (l : List Int) : Bool := SF l && l.all fun n => XA n 0 100000
def ptR (l : List Int) : Value := if cC l then lP l else lP []
theorem mP {l : List Int} (h : cC l = true) : ptR l = lP l := by rw [ptR, if_pos h]
theorem fO {l : List Int} (h : cC l = false) : ptR l = lP [] := by rw [ptR, if_neg (by rw [h]; simp)]
theorem ZB {l : List Int} (h : cC l = true) : 1 ≤ l.length ∧ l.length ≤ 6 ∧ ∀ (k : Nat) (n : Int), l[k]? = some n → 0 ≤ n ∧ n ≤ 100000 := by
  simp only [cC, Bool.and_eq_true, List.all_eq_true] at h
  have := PC h.1
  exact ⟨by omega, by omega, fun (k : Nat) (n : Int) hk => PC (h.2 n (List.mem_of_getElem? hk))⟩
theorem aI {l : List Int} {k : Nat} {n : Int} (hn : l[k]? = some n) (h : XA n 0 100000 = false) : cC l = false := by
  rw [Bool.eq_false_iff]
  intro hc
  simp only [cC, Bool.and_eq_true, List.all_eq_true] at hc
  rw [hc.2 n (List.mem_of_getElem? hn)] at h
  cases h
theorem cI {l : List Int} (hs : SF l = true) (h : ∀ (k : Nat) (n : Int), k < l.length → l[k]? = some n → XA n 0 100000 = true) : cC l = true := by
  simp only [cC, Bool.and_eq_true, List.all_eq_true]
  refine ⟨hs, fun n hn => ?_⟩
  obtain ⟨k, hk, e⟩ := List.getElem_of_mem hn
  exact h k n hk (by rw [List.getElem?_eq_getElem hk, e])
def CntTo (w : World) (l : List Int) (g k : Nat) (wr : World) : Prop := Below w.heap.size w wr ∧ Blk wr w.heap.size 132 (tC [] 0) ∧ Blk wr g 132 (tC l l.length) ∧ ∀ (j : Nat) (n : Int), j < k → l[j]? = some n → XA n 0 100000 = true
set_option maxRecDepth 100000 in
set_option maxHeartbeats 2000000 in
theorem zJ (v : Value) (l : List Int) (w : World) (h : SlI w v l) (hl : l.length ≤ 1048576) :
    Calls Tryz.prog 109 #[v] w fun e w' => e = .returned (.tuple #[ptR l, .bool (cC l)]) ∧ Below w.heap.size w w' := by
  have C := fun w h => KI v l w h hl
  rcases Bool.eq_false_or_eq_true (SF l) with hs | hs
  · have hs' := PC hs
    have hne : l ≠ [] := by intro e; subst e; simp at hs'
    have H0 := h.below ((Below.refl _ _).alloc (Nat.le_refl _) (.cells (tC [] 0).toArray 132))
    obtain ⟨b1, o1, c1, rfl, k1, m1, s1, H1⟩ := h.at hne
    unfold maxLen at m1
    have HS := Lib.hid hs
    simp only [hs, if_true] at C
    clear h hs
    go_enter Tryz.func109, Tryz.ntmps109
    go_wp2_with fail
    refine (C _ H0).mono ?_
    rintro e w1 ⟨rfl, hB1⟩
    have hz := hB1.size
    simp at hz
    have hB0 : Below w.heap.size w w1 := ((Below.refl _ _).alloc (Nat.le_refl _) _).trans (hB1.mono (by simp))
    have hZ : Blk w1 w.heap.size 132 (tC [] 0) := Blk.below (heap_alloc_new w _) hB1 (by simp)
    have HB := Lib.hid (And.intro hB0 hZ)
    clear hB1 hB0 hZ C H0
    unfold lP ptA
    go_wp2
    go_loopw [18] (fun i wr => ∃ k : Nat, k ≤ l.length ∧ i = .int .i64 k ∧ CntTo w l w1.heap.size k wr) (fun i _ => l.length - (intOf i).toNat)
    case atStart =>
      refine ⟨0, Nat.zero_le _, rfl, HB.out.1.alloc (by omega) _, ?_, heap_alloc_new w1 _, fun j n hj => by omega⟩
      exact HB.out.2.below ((Below.refl w1.heap.size _).alloc (Nat.le_refl _) _) (by omega)
    case round =>
      obtain ⟨k, hk, rfl, hP⟩ := hrel
      by_cases hlt : k < l.length
      · obtain ⟨n, hg⟩ : ∃ n, l[k]? = some n := ⟨_, List.getElem?_eq_getElem hlt⟩
        have A1 : wr.cell? ⟨b1, o1 + k, none⟩ = some (.int .i64 n) := (hP.1.cell (p := ⟨b1, o1 + k, none⟩) s1).trans (H1 k n hg)
        have j0 : (0 : Int) ≤ (k : Int) := by omega
        have j1 : (k : Int) < (l.length : Int) := by omega
        rcases Bool.eq_false_or_eq_true (XA n 0 100000) with hin | hin
        · have HI := Lib.hid hin
          have HH := Lib.hid (And.intro hP hg)
          clear hP hg H1 hin
          go_wp2_with fail
          refine (LB _ _ _ _).mono ?_
          rintro e w2 ⟨rfl, rfl⟩
          rw [HI.out]
          go_wp2
          refine ⟨⟨k + 1, by omega, by go_num, HH.out.1.1, HH.out.1.2.1, HH.out.1.2.2.1, fun j m hj hm => ?_⟩, by simp [intOf]; omega⟩
          by_cases e : j = k
          · subst e
            rw [HH.out.2] at hm
            cases hm
            exact HI.out
          · exact HH.out.1.2.2.2 j m (by omega) hm
        · have HC := Lib.hid (aI hg hin)
          have HI := Lib.hid hin
          obtain ⟨z0, z1, z2, z3, z4, z5, z6, zf⟩ := xF hP.2.1
          have HH := Lib.hid (And.intro hP hg)
          clear hP hg H1 hin
          go_wp2_with fail
          refine (LB _ _ _ _).mono ?_
          rintro e w2 ⟨rfl, rfl⟩
          rw [HI.out]
          go_wp2
          exact bodyPost_ret (UE rfl rfl (vG (l := []) (n := 0) HH.out.1.2.1)) rfl ⟨by rw [HC.out, fO HC.out]; rfl, gF HH.out.1.1 (Nat.le_refl _) [] 0⟩
      · obtain rfl : k = l.length := by omega
        have HC := Lib.hid (cI HS.out (fun k n _ hk => hP.2.2.2 k n (List.getElem?_eq_some_iff.1 hk).1 hk))
        obtain ⟨z0, z1, z2, z3, z4, z5, z6, zf⟩ := xF hP.2.1
        obtain ⟨y0, y1, y2, y3, y4, y5, y6, yf⟩ := xF hP.2.2.1
        have HP := Lib.hid hP
        clear H1 hP
        go_wp2
        exact bodyPost_ret (UE rfl rfl (vG (l := l) (n := l.length) HP.out.2.1)) rfl ⟨by rw [HC.out, mP HC.out]; rfl, gF HP.out.1 (Nat.le_refl _) l l.length⟩
  · have hc : cC l = false := by simp [cC, hs]
    rw [hc, fO hc]
    have H0 := h.below ((Below.refl _ _).alloc (Nat.le_refl _) (.cells (tC [] 0).toArray 132))
    obtain ⟨a, c, rfl, k1, m1⟩ : ∃ a c, v = .slice a l.length c ∧ l.length ≤ c ∧ c ≤ maxLen := by
      obtain ⟨a, c, rfl, k1, m1, -⟩ := h
      exact ⟨a, c, rfl, k1, m1⟩
    simp only [hs, Bool.false_eq_true, if_false] at C
    clear h hs hc
    go_enter Tryz.func109, Tryz.ntmps109
    go_wp2_with fail
    refine (C _ H0).mono ?_
    rintro e w1 ⟨rfl, hB1⟩
    have hz := hB1.size
    simp at hz
    have hB0 : Below w.heap.size w w1 := ((Below.refl _ _).alloc (Nat.le_refl _) _).trans (hB1.mono (by simp))
    have hZ : Blk w1 w.heap.size 132 (tC [] 0) := Blk.below (heap_alloc_new w _) hB1 (by simp)
    obtain ⟨z0, z1, z2, z3, z4, z5, z6, zf⟩ := xF hZ
    have HB := Lib.hid (And.intro hB0 hZ)
    clear hB1 hB0 hZ C H0
    simp only [gP] at z0 z1 z2 z3 z4 z5
    have ZC : ∀ i, (w1.alloc (.cells #[.int .i64 0, .int .i64 0, .int .i64 0, .int .i64 0, .int .i64 0, .int .i64 0, .int .i64 0] 132)).cell? ⟨w.heap.size, i, none⟩ = w1.cell? ⟨w.heap.size, i, none⟩ := fun i => ((Below.refl w1.heap.size w1).alloc (Nat.le_refl _) _).cell (p := ⟨w.heap.size, i, none⟩) (by simp; omega)
    have ZF : ∀ i, (w1.alloc (.cells #[.int .i64 0, .int .i64 0, .int .i64 0, .int .i64 0, .int .i64 0, .int .i64 0, .int .i64 0] 132)).frozen? ⟨w.heap.size, i, none⟩ = w1.frozen? ⟨w.heap.size, i, none⟩ := fun i => ((Below.refl w1.heap.size w1).alloc (Nat.le_refl _) _).frozen (p := ⟨w.heap.size, i, none⟩) (by simp; omega)
    unfold lP ptA
    go_wp2
    exact bodyPost_ret (UE (w := aO (w1.alloc (.cells (tC [] 0).toArray 132)) w.heap.size [] 0) rfl rfl (vG (HB.out.2.below ((Below.refl w1.heap.size _).alloc (Nat.le_refl _) _) (by omega)))) rfl ⟨rfl, gF (HB.out.1.alloc (by omega) _) (Nat.le_refl _) [] 0⟩
set_option maxHeartbeats 1000000 in
theorem BJ (v : Value) (l : List Int) (w : World) (h : SlI w v l) (hl : l.length ≤ 1048576) :
    Calls Tryz.prog 61 #[v] w fun e w' => e = .returned (.bool (cC l)) ∧ Below w.heap.size w w' := by
  have C := zJ v l w h hl
  obtain ⟨a, c, rfl, -⟩ := h
  obtain ⟨r, hr⟩ : ∃ r : List Int × Int, ptR l = ptA r.1 r.2 := by
    rcases Bool.eq_false_or_eq_true (cC l) with hs | hs
    · exact ⟨(l, l.length), mP hs⟩
    · exact ⟨([], 0), fO hs⟩
  rw [hr] at C
  generalize cC l = b at C ⊢
  clear hr
  go_enter Tryz.func61, Tryz.ntmps61
  go_wp2_with fail
  refine C.mono ?_
  rintro e w1 ⟨rfl, hB1⟩
  unfold ptA
  go_wp2
  go_ret
  exact ⟨rfl, hB1.alloc hB1.size _⟩
set_option maxRecDepth 100000 in
set_option maxHeartbeats 1000000 in
theorem tJ (v : Value) (l : List Int) (w : World) (h : SlI w v l) (hl : l.length ≤ 1048576) :
    Calls Tryz.prog 63 #[v] w fun e w' => e = .returned (.bool (cC l)) ∧ w = w' := by
  by_cases hn : l = []
  · subst hn
    obtain ⟨a1, c1, rfl⟩ := h.nil
    clear h hl
    go_enter Tryz.func63, Tryz.ntmps63
    go_wp2
    go_loop [3] (fun i => i = .int .i64 0) (fun i => 0)
    case atStart => rfl
    case round =>
      obtain rfl := hrel
      go_wp2
      go_ret
      exact ⟨rfl, rfl⟩
  · obtain ⟨b1, o1, c1, rfl, k1, m1, s1, H1⟩ := h.at hn
    have hl1 : 1 ≤ l.length := List.length_pos_iff.2 hn
    unfold maxLen at m1
    clear h hn
    go_enter Tryz.func63, Tryz.ntmps63
    go_wp2
    go_loop [3] (fun i => ∃ k : Nat, k ≤ l.length ∧ i = .int .i64 k ∧ ∀ (j : Nat) (n : Int), j < k → l[j]? = some n → XA n 0 100000 = true) (fun i => l.length - (intOf i).toNat)
    case atStart => exact ⟨0, Nat.zero_le _, rfl, fun j n hj => by omega⟩
    case round =>
      obtain ⟨k, hk, rfl, hP⟩ := hrel
      by_cases hlt : k < l.length
      · obtain ⟨n, hg⟩ : ∃ n, l[k]? = some n := ⟨_, List.getElem?_eq_getElem hlt⟩
        have A1 := H1 k n hg
        have j0 : (0 : Int) ≤ (k : Int) := by omega
        have j1 : (k : Int) < (l.length : Int) := by omega
        rcases Bool.eq_false_or_eq_true (XA n 0 100000) with hin | hin
        · have HI := Lib.hid hin
          have HH := Lib.hid (And.intro hP hg)
          clear hP hg H1 hin
          go_wp2_with fail
          refine (fB _ _ _ _).mono ?_
          rintro e w2 ⟨rfl, rfl⟩
          rw [HI.out]
          go_wp2
          refine ⟨⟨k + 1, by omega, by go_num, fun j m hj hm => ?_⟩, by simp [intOf]; omega⟩
          by_cases e : j = k
          · subst e
            rw [HH.out.2] at hm
            cases hm
            exact HI.out
          · exact HH.out.1 j m (by omega) hm
        · have HC := Lib.hid (aI hg hin)
          have HI := Lib.hid hin
          clear hP hg H1 hin
          go_wp2_with fail
          refine (fB _ _ _ _).mono ?_
          rintro e w2 ⟨rfl, rfl⟩
          rw [HI.out]
          go_wp2
          go_ret
          exact ⟨by first | rfl | (rw [HC.out]; rfl), rfl⟩
      · obtain rfl : k = l.length := by omega
        have HC : cC l = SF l := by
          rcases Bool.eq_false_or_eq_true (SF l) with hs | hs
          · rw [hs]
            exact cI hs (fun k n _ hk => hP k n (List.getElem?_eq_some_iff.1 hk).1 hk)
          · simp [cC, hs]
        have HC := Lib.hid HC
        clear H1 hP
        by_cases h6 : l.length ≤ 6
        · have h6' : (l.length : Int) ≤ 6 := by omega
          have h1' : (l.length : Int) ≥ 1 := by omega
          go_wp2
          go_ret
          exact ⟨by first | rfl | (rw [HC.out]; simp [SF, XA, h6', h1']; done) | (simp [SF, XA, h6', h1']; done), rfl⟩
        · have h6' : ¬ (l.length : Int) ≤ 6 := by omega
          have h1' : (l.length : Int) ≥ 1 := by omega
          go_wp2
          go_ret
          exact ⟨by first | rfl | (rw [HC.out]; simp [SF, XA, h6', h1']; done) | (simp [SF, XA, h6', h1']; done), rfl⟩
theorem YI (l : List Int) : ∀ u ∈ DA l, u.oneCell' = true := by
  intro u hu
  simp only [DA, List.mem_map] at hu
  obtain ⟨n, -, rfl⟩ := hu
  rfl
theorem AO (b off i : Nat) : (⟨b, off, none⟩ : Addr).add i = ⟨b, off + i, none⟩ := by
  unfold Addr.add
  split <;> simp_all
theorem fI {w w1 : World} {l : List Int} {b off c : Nat} (h : SlI w (.slice (some ⟨b, off, none⟩) l.length c) l) (hb : Below w.heap.size w w1) (hn : l ≠ []) : ∀ j u, (DA l)[j]? = some u → w1.cell? ((⟨b, off, none⟩ : Addr).add j) = some u := by
  intro j u hj
  obtain ⟨a, cap, hv, -, -, h3, h4⟩ := h.below hb
  cases hv
  rcases h4 with h4 | ⟨b', off', e, hc⟩
  · exact absurd (List.length_eq_zero_iff.1 h4) hn
  · cases e
    rw [AO, hc j (List.getElem?_eq_some_iff.1 hj).1, hj]
set_option maxHeartbeats 1000000 in
theorem vM (v : Value) (l : List Int) (w : World) (h : SlI w v l) (hn : l ≠ []) (hl : l.length ≤ 1048576) : Calls Tryz.prog 135 #[v] w (EM w l) := by
  obtain ⟨b1, o1, c1, rfl, k1, m1, s1, H1⟩ := h.at hn
  have hl0 : 0 < l.length := List.length_pos_iff.2 hn
  obtain ⟨i0, hi0, hz0, hz1, hz2⟩ := info_parts xK
  have HW := Lib.hid h
  have he : ∀ w : World, (binOp .eql 39 (.slice (some ⟨b1, o1, none⟩) l.length c1) (.slice none 0 0)).run Tryz.prog w = .ok (.bool false) w := fun _ => by kernel_rfl
  clear H1 h
  go_enter Tryz.func135, Tryz.ntmps135
  go_wp2_with (first
    | (at_builtin; refine wpList_append_lies _ rfl _ _ 39 rfl w.heap.size 2 i0 _ 1 8 KA hi0 hz0 hz1 hz2 rfl (by decide) (.slice (some ⟨w.heap.size, 0, none⟩) 0 0) 0 [] rfl (dG _ _ (Below.refl _ _)) ⟨b1, o1, none⟩ l.length c1 (DA l) rfl (by rw [EA]; omega) (fI HW.out ((Below.refl _ _).alloc (Nat.le_refl _) _) hn) (YI l) hl0 (by unfold maxLen; omega) (by omega) (by simp) (w.heap.size + 1) (by simp) ?_; intro g cap w1 hown hgrow hat hgl)
    | go_in)
  go_ret
  rw [List.nil_append, Nat.zero_add] at hown
  obtain ⟨q1, q2⟩ : w.heap.size ≤ g ∧ Below w.heap.size w w1 := ⟨by
      rcases hat with h | h
      · simp [Value.ownBlock] at h; omega
      · omega, ((Below.refl _ _).alloc (Nat.le_refl _) _).grown hgrow (by simp) (fun j hj => by simp [Value.ownBlock] at hj; omega)⟩
  exact ⟨g, _, rfl, q1, YD hown, q2⟩
theorem SaysIB.fresh {w w1 w' : World} {l : List Int} {b : Bool} {g : Nat} {u : Value} (hg : w1.heap.size ≤ g) (hO : Own w' u g 2 1 l.length (DA l)) (h1 : 1 ≤ l.length) (hB : Below w.heap.size w w1) (hB1 : Below w1.heap.size w1 w') : SaysIB (l, b) w (.returned (.tuple #[u, .bool b])) w' :=
  ⟨u, rfl, OwnR.of_own hO (by have := hB.size; omega) h1, hB.trans (hB1.mono hB.size)⟩
set_option maxHeartbeats 1000000 in
theorem xI (v : Value) (l : List Int) (w : World) (h : SlI w v l) (hn : l ≠ []) (hl : l.length ≤ 1048576) : Calls Tryz.prog 104 #[v] w (EM w l) := by
  obtain ⟨b1, o1, c1, rfl, k1, m1, s1, H1⟩ := h.at hn
  have hl0 : 0 < l.length := List.length_pos_iff.2 hn
  obtain ⟨i0, hi0, hz0, hz1, hz2⟩ := info_parts xK
  have HW := Lib.hid h
  clear H1 h
  go_enter Tryz.func104, Tryz.ntmps104
  go_wp2_with (first
    | (at_builtin; refine wpList_append_lies _ rfl _ _ 39 rfl w.heap.size 2 i0 _ 1 8 KA hi0 hz0 hz1 hz2 rfl (by decide) (.slice (some ⟨w.heap.size, 0, none⟩) 0 0) 0 [] rfl (dG _ _ (Below.refl _ _)) ⟨b1, o1, none⟩ l.length c1 (DA l) rfl (by rw [EA]; omega) (fI HW.out ((Below.refl _ _).alloc (Nat.le_refl _) _) hn) (YI l) hl0 (by unfold maxLen; omega) (by omega) (by simp) (w.heap.size + 1) (by simp) ?_; intro g cap w1 hown hgrow hat hgl)
    | go_in)
  go_ret
  rw [List.nil_append, Nat.zero_add] at hown
  obtain ⟨q1, q2⟩ : w.heap.size ≤ g ∧ Below w.heap.size w w1 := ⟨by
      rcases hat with h | h
      · simp [Value.ownBlock] at h; omega
      · omega, ((Below.refl _ _).alloc (Nat.le_refl _) _).grown hgrow (by simp) (fun j hj => by simp [Value.ownBlock] at hj; omega)⟩
  exact ⟨g, _, rfl, q1, YD hown, q2⟩
end Go.Proofs.YtfjafncipjdnfaaGreat
