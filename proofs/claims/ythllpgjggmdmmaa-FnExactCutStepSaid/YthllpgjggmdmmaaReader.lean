/- Readers: counts of each task in an array of a generic type. -/
import Derived.Test.YthllpgjggmdmmaaNodesOk
import Derived.Laws.ResultCell
import Derived.Test.YthllpgjggmdmmaaRowInt
namespace Go.Proofs.Ythllpgjggmdmmaa
open Go.ChangeShapes Go.WideShapes Go.ChangeAt Go.RowKit
set_option linter.unusedVariables false
set_option linter.unusedSimpArgs false

def atI (l : List Int) (i : Nat) : Int := (l[i]?).getD 0
/-- One of each task: the six of the array, behind them how many tasks there are. -/
def ptCells (l : List Int) (n : Int) : List Value := [.int .i64 (atI l 0), .int .i64 (atI l 1), .int .i64 (atI l 2), .int .i64 (atI l 3), .int .i64 (atI l 4), .int .i64 (atI l 5), .int .i64 n]
def ptA (l : List Int) (n : Int) : Value := .agg #[.int .i64 (atI l 0), .int .i64 (atI l 1), .int .i64 (atI l 2), .int .i64 (atI l 3), .int .i64 (atI l 4), .int .i64 (atI l 5), .int .i64 n]
def ptV (l : List Int) : Value := ptA l l.length
def sizeB (l : List Int) : Bool := inB (l.length : Int) 1 6
@[simp] theorem atI_nil (i : Nat) : atI [] i = 0 := rfl
theorem atI_get {l : List Int} {k : Nat} {x : Int} (h : l[k]? = some x) : atI l k = x := by simp [atI, h]
theorem take_atI (l : List Int) (k i : Nat) : atI (l.take k) i = if i < k then atI l i else 0 := by
  simp only [atI, List.getElem?_take]
  split <;> rfl
theorem pt_set {l : List Int} {k : Nat} {x n : Int} (h : l[k]? = some x) (hk : k < 6) : (ptCells (l.take k) n).set k (.int .i64 x) = ptCells (l.take (k + 1)) n := by
  have hx := atI_get h
  rcases (show k = 0 ∨ k = 1 ∨ k = 2 ∨ k = 3 ∨ k = 4 ∨ k = 5 by omega) with rfl | rfl | rfl | rfl | rfl | rfl <;> simp [ptCells, take_atI, hx]
/-- Seven cells of one block. -/
theorem pt_cells {w : World} {g : Nat} {t : TypeId} {l : List Int} {n : Int} (h : Blk w g t (ptCells l n)) : w.cell? ⟨g, 0, none⟩ = some (.int .i64 (atI l 0)) ∧ w.cell? ⟨g, 1, none⟩ = some (.int .i64 (atI l 1)) ∧ w.cell? ⟨g, 2, none⟩ = some (.int .i64 (atI l 2)) ∧ w.cell? ⟨g, 3, none⟩ = some (.int .i64 (atI l 3)) ∧ w.cell? ⟨g, 4, none⟩ = some (.int .i64 (atI l 4)) ∧ w.cell? ⟨g, 5, none⟩ = some (.int .i64 (atI l 5)) ∧ w.cell? ⟨g, 6, none⟩ = some (.int .i64 n) ∧ ∀ i, w.frozen? ⟨g, i, none⟩ = false :=
  ⟨h.cell 0, h.cell 1, h.cell 2, h.cell 3, h.cell 4, h.cell 5, h.cell 6, fun i => h.free i⟩
/-- Seven cells written over. -/
def setPt (w : World) (g : Nat) (l : List Int) (n : Int) : World := ((((((w.setCell ⟨g, 0, none⟩ (.int .i64 (atI l 0))).setCell ⟨g, 1, none⟩ (.int .i64 (atI l 1))).setCell ⟨g, 2, none⟩ (.int .i64 (atI l 2))).setCell ⟨g, 3, none⟩ (.int .i64 (atI l 3))).setCell ⟨g, 4, none⟩ (.int .i64 (atI l 4))).setCell ⟨g, 5, none⟩ (.int .i64 (atI l 5))).setCell ⟨g, 6, none⟩ (.int .i64 n)
theorem setPt_blk {w : World} {g : Nat} {t : TypeId} {l l' : List Int} {n n' : Int} (h : Blk w g t (ptCells l' n')) : Blk (setPt w g l n) g t (ptCells l n) :=
  ((((((h.set 0 (.int .i64 (atI l 0))).set 1 (.int .i64 (atI l 1))).set 2 (.int .i64 (atI l 2))).set 3 (.int .i64 (atI l 3))).set 4 (.int .i64 (atI l 4))).set 5 (.int .i64 (atI l 5))).set 6 (.int .i64 n)
theorem setPt_below {B : Nat} {w0 w : World} {g : Nat} (h : Below B w0 w) (hB : B ≤ g) (l : List Int) (n : Int) : Below B w0 (setPt w g l n) :=
  ((((((h.setCell (p := ⟨g, 0, none⟩) hB _).setCell (p := ⟨g, 1, none⟩) hB _).setCell (p := ⟨g, 2, none⟩) hB _).setCell (p := ⟨g, 3, none⟩) hB _).setCell (p := ⟨g, 4, none⟩) hB _).setCell (p := ⟨g, 5, none⟩) hB _).setCell (p := ⟨g, 6, none⟩) hB _
theorem infoPt' : (Try.prog.info? 101).map (fun i => i.size) = some 7 := by kernel_rfl
/-- A result in a variable of that type, and one in a slot. -/
theorem results_pt {fn : Func} {p u : Tmp} (h : fn.results = #[.cell p 101, .tmp u]) {tmps : Array Value} {w : World} {g : Nat} {t : TypeId} {l : List Int} {n : Int} (hp : tmps.getD p undef = .pointer (some ⟨g, 0, none⟩)) (hg : Blk w g t (ptCells l n)) :
    (results fn tmps).run Try.prog w = .ok (.tuple #[ptA l n, tmps.getD u undef]) w := by
  rw [results_cell_tmp h, hp]
  simp [asAddr, run_loadVar_row (P := Try.prog) w g t 101 (ptCells l n).toArray (0, 0) _ hg Try.underlying101 rfl infoPt', Result.andThen]
  rfl
/-- What is there after k rounds. -/
def PadTo (w : World) (l : List Int) (k : Nat) (wr : World) : Prop := Below w.heap.size w wr ∧ Blk wr w.heap.size 101 (ptCells [] 0) ∧ Blk wr (w.heap.size + 1) 101 (ptCells (l.take k) l.length)
theorem PadTo.room {w : World} {l : List Int} {k : Nat} {wr : World} (h : PadTo w l k wr) (hk : k < 6) : ∃ x0, wr.cell? ⟨w.heap.size + 1, k, none⟩ = some x0 ∧ wr.frozen? ⟨w.heap.size + 1, k, none⟩ = false := by
  have := h.2.2.cell k
  rw [List.getElem?_eq_getElem (by simp [ptCells]; omega)] at this
  exact ⟨_, this, h.2.2.free k⟩
theorem PadTo.step {w : World} {l : List Int} {k : Nat} {wr : World} {x : Int} (h : PadTo w l k wr) (hx : l[k]? = some x) (hk : k < 6) : PadTo w l (k + 1) (wr.setCell ⟨w.heap.size + 1, k, none⟩ (.int .i64 x)) := by
  obtain ⟨h1, h2, h3⟩ := h
  refine ⟨h1.setCell (by simp) _, (But.set _ _ _ _).blk h2 (by omega), ?_⟩
  have := h3.set k (.int .i64 x)
  rwa [pt_set hx hk] at this

set_option maxRecDepth 100000 in
set_option maxHeartbeats 2000000 in
theorem impl_perTaskOf (v : Value) (l : List Int) (w : World) (h : SlI w v l) (hl : l.length ≤ 1048576) :
    Calls Try.prog 95 #[v] w fun e w' => e = .returned (.tuple #[if sizeB l then ptV l else ptV [], .bool (sizeB l)]) ∧ Below w.heap.size w w' := by
  rcases Bool.eq_false_or_eq_true (sizeB l) with hs | hs
  · have hs' := inB_t hs
    have hne : l ≠ [] := by intro e; subst e; simp at hs'
    obtain ⟨b1, o1, c1, rfl, k1, m1, s1, H1⟩ := h.at hne
    unfold maxLen at m1
    have HS := Lib.hid hs
    clear h
    rw [hs, if_pos rfl]
    clear hs
    go_enter Try.func95, Try.ntmps95
    go_wp2_with fail
    refine (impl_in _ _ _ _).mono ?_
    rintro e w1 ⟨rfl, rfl⟩
    rw [show inB (l.length : Int) 1 6 = true from HS.out]
    go_wp2
    go_loopw [18] (fun i wr => ∃ k : Nat, k ≤ l.length ∧ i = .int .i64 k ∧ PadTo w l k wr) (fun i _ => l.length - (intOf i).toNat)
    case atStart =>
      refine ⟨0, Nat.zero_le _, rfl, ?_, ?_, ?_⟩
      · exact ((Below.refl _ _).alloc (Nat.le_refl _) _).alloc (by simp) _
      · exact Blk.below (B := w.heap.size + 1) (heap_alloc_new w _) ((Below.refl _ _).alloc (by simp) _) (by omega)
      · have := heap_alloc_new (w.alloc (.cells (ptCells [] 0).toArray 101)) (.cells (ptCells [] l.length).toArray 101)
        simpa [Blk, ptCells] using this
    case round =>
      obtain ⟨k, hk, rfl, hP⟩ := hrel
      by_cases hlt : k < l.length
      · obtain ⟨n, hg⟩ : ∃ n, l[k]? = some n := ⟨_, List.getElem?_eq_getElem hlt⟩
        have A1 : wr.cell? ⟨b1, o1 + k, none⟩ = some (.int .i64 n) := (hP.1.cell (p := ⟨b1, o1 + k, none⟩) s1).trans (H1 k n hg)
        have j0 : (0 : Int) ≤ (k : Int) := by omega
        have j1 : (k : Int) < (l.length : Int) := by omega
        have j2 : (k : Int) < 6 := by omega
        have j3 : k < 6 := by omega
        obtain ⟨x0, y0, yf⟩ := hP.room j3
        have HH := Lib.hid (And.intro hP hg)
        clear hP hg H1
        go_wp2
        exact ⟨⟨k + 1, by omega, by go_num, HH.out.1.step HH.out.2 j3⟩, by simp [intOf]; omega⟩
      · obtain rfl : k = l.length := by omega
        obtain ⟨z0, z1, z2, z3, z4, z5, z6, zf⟩ := pt_cells hP.2.1
        obtain ⟨y0, y1, y2, y3, y4, y5, y6, yf⟩ := pt_cells hP.2.2
        rw [List.take_length] at y0 y1 y2 y3 y4 y5
        have HP := Lib.hid hP
        clear H1 hP
        go_wp2
        exact bodyPost_ret (results_pt rfl rfl (setPt_blk (n := l.length) HP.out.2.1)) rfl ⟨rfl, setPt_below HP.out.1 (Nat.le_refl _) l l.length⟩
  · obtain ⟨a, c, rfl, k1, m1⟩ : ∃ a c, v = .slice a l.length c ∧ l.length ≤ c ∧ c ≤ maxLen := by
      obtain ⟨a, c, rfl, k1, m1, -⟩ := h
      exact ⟨a, c, rfl, k1, m1⟩
    clear h
    have HS := Lib.hid hs
    rw [hs, if_neg (by simp)]
    clear hs
    go_enter Try.func95, Try.ntmps95
    go_wp2_with fail
    refine (impl_in _ _ _ _).mono ?_
    rintro e w1 ⟨rfl, rfl⟩
    rw [show inB (l.length : Int) 1 6 = false from HS.out]
    go_wp2
    exact bodyPost_ret (results_pt (l := []) (n := 0) rfl rfl (heap_alloc_new w _)) rfl ⟨rfl, (Below.refl _ _).alloc (Nat.le_refl _) _⟩

/-! ### countsOf -/
def countsB (l : List Int) : Bool := sizeB l && l.all fun n => inB n 0 100000
def ptR (l : List Int) : Value := if countsB l then ptV l else ptV []
theorem ptR_t {l : List Int} (h : countsB l = true) : ptR l = ptV l := by rw [ptR, if_pos h]
theorem ptR_f {l : List Int} (h : countsB l = false) : ptR l = ptV [] := by rw [ptR, if_neg (by rw [h]; simp)]
theorem countsB_some {l : List Int} (h : countsB l = true) : 1 ≤ l.length ∧ l.length ≤ 6 ∧ ∀ (k : Nat) (n : Int), l[k]? = some n → 0 ≤ n ∧ n ≤ 100000 := by
  simp only [countsB, Bool.and_eq_true, List.all_eq_true] at h
  have := inB_t h.1
  exact ⟨by omega, by omega, fun (k : Nat) (n : Int) hk => inB_t (h.2 n (List.mem_of_getElem? hk))⟩
theorem countsB_off {l : List Int} {k : Nat} {n : Int} (hn : l[k]? = some n) (h : inB n 0 100000 = false) : countsB l = false := by
  rw [Bool.eq_false_iff]
  intro hc
  simp only [countsB, Bool.and_eq_true, List.all_eq_true] at hc
  rw [hc.2 n (List.mem_of_getElem? hn)] at h
  cases h
theorem countsB_all {l : List Int} (hs : sizeB l = true) (h : ∀ (k : Nat) (n : Int), k < l.length → l[k]? = some n → inB n 0 100000 = true) : countsB l = true := by
  simp only [countsB, Bool.and_eq_true, List.all_eq_true]
  refine ⟨hs, fun n hn => ?_⟩
  obtain ⟨k, hk, e⟩ := List.getElem_of_mem hn
  exact h k n hk (by rw [List.getElem?_eq_getElem hk, e])
/-- The loop over the counts: the first k are right; both variables stand. -/
def CntTo (w : World) (l : List Int) (g k : Nat) (wr : World) : Prop := Below w.heap.size w wr ∧ Blk wr w.heap.size 101 (ptCells [] 0) ∧ Blk wr g 101 (ptCells l l.length) ∧ ∀ (j : Nat) (n : Int), j < k → l[j]? = some n → inB n 0 100000 = true

set_option maxRecDepth 100000 in
set_option maxHeartbeats 2000000 in
theorem impl_countsOf (v : Value) (l : List Int) (w : World) (h : SlI w v l) (hl : l.length ≤ 1048576) :
    Calls Try.prog 85 #[v] w fun e w' => e = .returned (.tuple #[ptR l, .bool (countsB l)]) ∧ Below w.heap.size w w' := by
  have C := fun w h => impl_perTaskOf v l w h hl
  rcases Bool.eq_false_or_eq_true (sizeB l) with hs | hs
  · have hs' := inB_t hs
    have hne : l ≠ [] := by intro e; subst e; simp at hs'
    have H0 := h.below ((Below.refl _ _).alloc (Nat.le_refl _) (.cells (ptCells [] 0).toArray 101))
    obtain ⟨b1, o1, c1, rfl, k1, m1, s1, H1⟩ := h.at hne
    unfold maxLen at m1
    have HS := Lib.hid hs
    simp only [hs, if_true] at C
    clear h hs
    go_enter Try.func85, Try.ntmps85
    go_wp2_with fail
    refine (C _ H0).mono ?_
    rintro e w1 ⟨rfl, hB1⟩
    have hz := hB1.size
    simp at hz
    have hB0 : Below w.heap.size w w1 := ((Below.refl _ _).alloc (Nat.le_refl _) _).trans (hB1.mono (by simp))
    have hZ : Blk w1 w.heap.size 101 (ptCells [] 0) := Blk.below (heap_alloc_new w _) hB1 (by simp)
    have HB := Lib.hid (And.intro hB0 hZ)
    clear hB1 hB0 hZ C H0
    unfold ptV ptA
    go_wp2
    go_loopw [18] (fun i wr => ∃ k : Nat, k ≤ l.length ∧ i = .int .i64 k ∧ CntTo w l w1.heap.size k wr) (fun i _ => l.length - (intOf i).toNat)
    case atStart =>
      refine ⟨0, Nat.zero_le _, rfl, HB.out.1.alloc (by omega) _, ?_, heap_alloc_new w1 _, fun j n hj => by omega⟩
      exact HB.out.2.below ((Below.refl w1.heap.size _).alloc (Nat.le_refl _) _) (by omega)
    case round =>
      obtain ⟨k, hk, rfl, hP⟩ := hrel
      by_cases hlt : k < l.length
      · obtain ⟨n, hg⟩ : ∃ n, l[k]? = some n := ⟨_, List.getElem?_eq_getElem hlt⟩
        have A1 : wr.cell? ⟨b1, o1 + k, none⟩ = some (.int .i64 n) := (hP.1.cell (p := ⟨b1, o1 + k, none⟩) s1).trans (H1 k n hg)
        have j0 : (0 : Int) ≤ (k : Int) := by omega
        have j1 : (k : Int) < (l.length : Int) := by omega
        rcases Bool.eq_false_or_eq_true (inB n 0 100000) with hin | hin
        · have HI := Lib.hid hin
          have HH := Lib.hid (And.intro hP hg)
          clear hP hg H1 hin
          go_wp2_with fail
          refine (impl_in _ _ _ _).mono ?_
          rintro e w2 ⟨rfl, rfl⟩
          rw [HI.out]
          go_wp2
          refine ⟨⟨k + 1, by omega, by go_num, HH.out.1.1, HH.out.1.2.1, HH.out.1.2.2.1, fun j m hj hm => ?_⟩, by simp [intOf]; omega⟩
          by_cases e : j = k
          · subst e
            rw [HH.out.2] at hm
            cases hm
            exact HI.out
          · exact HH.out.1.2.2.2 j m (by omega) hm
        · have HC := Lib.hid (countsB_off hg hin)
          have HI := Lib.hid hin
          obtain ⟨z0, z1, z2, z3, z4, z5, z6, zf⟩ := pt_cells hP.2.1
          have HH := Lib.hid (And.intro hP hg)
          clear hP hg H1 hin
          go_wp2_with fail
          refine (impl_in _ _ _ _).mono ?_
          rintro e w2 ⟨rfl, rfl⟩
          rw [HI.out]
          go_wp2
          exact bodyPost_ret (results_pt rfl rfl (setPt_blk (l := []) (n := 0) HH.out.1.2.1)) rfl ⟨by rw [HC.out, ptR_f HC.out]; rfl, setPt_below HH.out.1.1 (Nat.le_refl _) [] 0⟩
      · obtain rfl : k = l.length := by omega
        have HC := Lib.hid (countsB_all HS.out (fun k n _ hk => hP.2.2.2 k n (List.getElem?_eq_some_iff.1 hk).1 hk))
        obtain ⟨z0, z1, z2, z3, z4, z5, z6, zf⟩ := pt_cells hP.2.1
        obtain ⟨y0, y1, y2, y3, y4, y5, y6, yf⟩ := pt_cells hP.2.2.1
        have HP := Lib.hid hP
        clear H1 hP
        go_wp2
        exact bodyPost_ret (results_pt rfl rfl (setPt_blk (l := l) (n := l.length) HP.out.2.1)) rfl ⟨by rw [HC.out, ptR_t HC.out]; rfl, setPt_below HP.out.1 (Nat.le_refl _) l l.length⟩
  · have hc : countsB l = false := by simp [countsB, hs]
    rw [hc, ptR_f hc]
    have H0 := h.below ((Below.refl _ _).alloc (Nat.le_refl _) (.cells (ptCells [] 0).toArray 101))
    obtain ⟨a, c, rfl, k1, m1⟩ : ∃ a c, v = .slice a l.length c ∧ l.length ≤ c ∧ c ≤ maxLen := by
      obtain ⟨a, c, rfl, k1, m1, -⟩ := h
      exact ⟨a, c, rfl, k1, m1⟩
    simp only [hs, Bool.false_eq_true, if_false] at C
    clear h hs hc
    go_enter Try.func85, Try.ntmps85
    go_wp2_with fail
    refine (C _ H0).mono ?_
    rintro e w1 ⟨rfl, hB1⟩
    have hz := hB1.size
    simp at hz
    have hB0 : Below w.heap.size w w1 := ((Below.refl _ _).alloc (Nat.le_refl _) _).trans (hB1.mono (by simp))
    have hZ : Blk w1 w.heap.size 101 (ptCells [] 0) := Blk.below (heap_alloc_new w _) hB1 (by simp)
    obtain ⟨z0, z1, z2, z3, z4, z5, z6, zf⟩ := pt_cells hZ
    have HB := Lib.hid (And.intro hB0 hZ)
    clear hB1 hB0 hZ C H0
    simp only [atI_nil] at z0 z1 z2 z3 z4 z5
    have ZC : ∀ i, (w1.alloc (.cells #[.int .i64 0, .int .i64 0, .int .i64 0, .int .i64 0, .int .i64 0, .int .i64 0, .int .i64 0] 101)).cell? ⟨w.heap.size, i, none⟩ = w1.cell? ⟨w.heap.size, i, none⟩ := fun i => ((Below.refl w1.heap.size w1).alloc (Nat.le_refl _) _).cell (p := ⟨w.heap.size, i, none⟩) (by simp; omega)
    have ZF : ∀ i, (w1.alloc (.cells #[.int .i64 0, .int .i64 0, .int .i64 0, .int .i64 0, .int .i64 0, .int .i64 0, .int .i64 0] 101)).frozen? ⟨w.heap.size, i, none⟩ = w1.frozen? ⟨w.heap.size, i, none⟩ := fun i => ((Below.refl w1.heap.size w1).alloc (Nat.le_refl _) _).frozen (p := ⟨w.heap.size, i, none⟩) (by simp; omega)
    unfold ptV ptA
    go_wp2
    exact bodyPost_ret (results_pt (w := setPt (w1.alloc (.cells (ptCells [] 0).toArray 101)) w.heap.size [] 0) rfl rfl (setPt_blk (HB.out.2.below ((Below.refl w1.heap.size _).alloc (Nat.le_refl _) _) (by omega)))) rfl ⟨rfl, setPt_below (HB.out.1.alloc (by omega) _) (Nat.le_refl _) [] 0⟩

set_option maxHeartbeats 1000000 in
theorem impl_CountsOk (v : Value) (l : List Int) (w : World) (h : SlI w v l) (hl : l.length ≤ 1048576) :
    Calls Try.prog 77 #[v] w fun e w' => e = .returned (.bool (countsB l)) ∧ Below w.heap.size w w' := by
  have C := impl_countsOf v l w h hl
  obtain ⟨a, c, rfl, -⟩ := h
  obtain ⟨r, hr⟩ : ∃ r : List Int × Int, ptR l = ptA r.1 r.2 := by
    rcases Bool.eq_false_or_eq_true (countsB l) with hs | hs
    · exact ⟨(l, l.length), ptR_t hs⟩
    · exact ⟨([], 0), ptR_f hs⟩
  rw [hr] at C
  generalize countsB l = b at C ⊢
  clear hr
  go_enter Try.func77, Try.ntmps77
  go_wp2_with fail
  refine C.mono ?_
  rintro e w1 ⟨rfl, hB1⟩
  unfold ptA
  go_wp2
  go_ret
  exact ⟨rfl, hB1.alloc hB1.size _⟩

set_option maxRecDepth 100000 in
set_option maxHeartbeats 1000000 in
theorem spec_CountsOk (v : Value) (l : List Int) (w : World) (h : SlI w v l) (hl : l.length ≤ 1048576) :
    Calls Try.prog 58 #[v] w fun e w' => e = .returned (.bool (countsB l)) ∧ w = w' := by
  by_cases hn : l = []
  · subst hn
    obtain ⟨a1, c1, rfl⟩ := h.nil
    clear h hl
    go_enter Try.func58, Try.ntmps58
    go_wp2
    go_loop [3] (fun i => i = .int .i64 0) (fun i => 0)
    case atStart => rfl
    case round =>
      obtain rfl := hrel
      go_wp2
      go_ret
      exact ⟨rfl, rfl⟩
  · obtain ⟨b1, o1, c1, rfl, k1, m1, s1, H1⟩ := h.at hn
    have hl1 : 1 ≤ l.length := List.length_pos_iff.2 hn
    unfold maxLen at m1
    clear h hn
    go_enter Try.func58, Try.ntmps58
    go_wp2
    go_loop [3] (fun i => ∃ k : Nat, k ≤ l.length ∧ i = .int .i64 k ∧ ∀ (j : Nat) (n : Int), j < k → l[j]? = some n → inB n 0 100000 = true) (fun i => l.length - (intOf i).toNat)
    case atStart => exact ⟨0, Nat.zero_le _, rfl, fun j n hj => by omega⟩
    case round =>
      obtain ⟨k, hk, rfl, hP⟩ := hrel
      by_cases hlt : k < l.length
      · obtain ⟨n, hg⟩ : ∃ n, l[k]? = some n := ⟨_, List.getElem?_eq_getElem hlt⟩
        have A1 := H1 k n hg
        have j0 : (0 : Int) ≤ (k : Int) := by omega
        have j1 : (k : Int) < (l.length : Int) := by omega
        rcases Bool.eq_false_or_eq_true (inB n 0 100000) with hin | hin
        · have HI := Lib.hid hin
          have HH := Lib.hid (And.intro hP hg)
          clear hP hg H1 hin
          go_wp2_with fail
          refine (spec_in _ _ _ _).mono ?_
          rintro e w2 ⟨rfl, rfl⟩
          rw [HI.out]
          go_wp2
          refine ⟨⟨k + 1, by omega, by go_num, fun j m hj hm => ?_⟩, by simp [intOf]; omega⟩
          by_cases e : j = k
          · subst e
            rw [HH.out.2] at hm
            cases hm
            exact HI.out
          · exact HH.out.1 j m (by omega) hm
        · have HC := Lib.hid (countsB_off hg hin)
          have HI := Lib.hid hin
          clear hP hg H1 hin
          go_wp2_with fail
          refine (spec_in _ _ _ _).mono ?_
          rintro e w2 ⟨rfl, rfl⟩
          rw [HI.out]
          go_wp2
          go_ret
          exact ⟨by first | rfl | (rw [HC.out]; rfl), rfl⟩
      · obtain rfl : k = l.length := by omega
        have HC : countsB l = sizeB l := by
          rcases Bool.eq_false_or_eq_true (sizeB l) with hs | hs
          · rw [hs]
            exact countsB_all hs (fun k n _ hk => hP k n (List.getElem?_eq_some_iff.1 hk).1 hk)
          · simp [countsB, hs]
        have HC := Lib.hid HC
        clear H1 hP
        by_cases h6 : l.length ≤ 6
        · have h6' : (l.length : Int) ≤ 6 := by omega
          have h1' : (l.length : Int) ≥ 1 := by omega
          go_wp2
          go_ret
          exact ⟨by first | rfl | (rw [HC.out]; simp [sizeB, inB, h6', h1']; done) | (simp [sizeB, inB, h6', h1']; done), rfl⟩
        · have h6' : ¬ (l.length : Int) ≤ 6 := by omega
          have h1' : (l.length : Int) ≥ 1 := by omega
          go_wp2
          go_ret
          exact ⟨by first | rfl | (rw [HC.out]; simp [sizeB, inB, h6', h1']; done) | (simp [sizeB, inB, h6', h1']; done), rfl⟩
end Go.Proofs.Ythllpgjggmdmmaa
