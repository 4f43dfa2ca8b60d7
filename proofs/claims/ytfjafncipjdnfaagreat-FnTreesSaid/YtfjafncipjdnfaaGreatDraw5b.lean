import Derived.Test.YtfjafncipjdnfaaGreatDice
import Derived.Test.YtfjafncipjdnfaaGreatInv
import Derived.Deep.RegionWith
namespace Go.Proofs.YtfjafncipjdnfaaGreat
open Go.ChangeShapes Go.WideShapes Go.ChangeAt Go.RowKit
set_option linter.unusedVariables false
set_option linter.unusedSimpArgs false
theorem CurAt.fresh {B g k : Nat} {v : Value} {l : List Int} {w : World} (h : CurAt B g v l w) (hk : k ≠ g) (hB : B ≤ k) (i : Nat) (x : Value) : CurAt B g v l (w.setCell ⟨k, i, none⟩ x) := h.but (But.set k i w x) hk hB
theorem CurAt.alloc {B g : Nat} {v : Value} {l : List Int} {w : World} (h : CurAt B g v l w) (o : Obj) : CurAt B g v l (w.alloc o) := h.below ((Below.refl _ _).alloc (Nat.le_refl _) o)
theorem lO : (Tryz.prog.info? 43).map (fun i => i.size) = some 3 := by kernel_rfl
theorem dH {fn : Func} {p : Tmp} (h : fn.results = #[.cell p 43]) {tmps : Array Value} {w : World} {g : Nat} {t : TypeId} {a b c : Value} (hp : tmps.getD p undef = .pointer (some ⟨g, 0, none⟩)) (hg : Blk w g t [a, b, c]) :
    (results fn tmps).run Tryz.prog w = .ok (.agg #[a, b, c]) w :=
  results_cell_row h tmps w g t #[a, b, c] (0, 0) _ hp hg mC rfl lO
def DrewC (B g : Nat) (v : Value) (l : List Int) (w : World) (P : Int → Int → Int → Prop) (e : Ending) (w' : World) : Prop := ∃ c k y : Int, e = .returned (.agg #[iJ c, iJ k, iJ y]) ∧ P c k y ∧ CurAt B g v l w' ∧ But g w w'
structure F5 (g : Nat) (w0 : World) (D : Nat → Prop) (t3 t4 t5 t6 t7 t8 t9 t10 t11 t12 t13 t14 : Value) (w : World) : Prop where
  f0 : D 0 → ∃ b : Nat, w0.heap.size < b ∧ t4 = .slice (some ⟨b, 0, none⟩) 5 5 ∧ Blk w b 2 ([iJ 1, iJ 2, iJ 2, iJ 3, iJ 3] : List Value)
  f1 : D 1 → t5 = .pointer (some ⟨g, 0, none⟩)
  f2 : D 2 → ∃ k : Nat, k < 5 ∧ t6 = iJ k
  f3 : D 3 → ∃ b k : Nat, w0.heap.size < b ∧ k < 5 ∧ t7 = .pointer (some ⟨b, k, none⟩) ∧ Blk w b 2 ([iJ 1, iJ 2, iJ 2, iJ 3, iJ 3] : List Value)
  f4 : D 4 → ∃ x : Int, (x = 1 ∨ x = 2 ∨ x = 3) ∧ t8 = iJ x
  f5 : D 5 → ∃ b : Nat, w0.heap.size < b ∧ t9 = .slice (some ⟨b, 0, none⟩) 7 7 ∧ Blk w b 2 ([iJ 5, iJ 3, iJ 8, iJ 4, iJ 9, iJ 2, iJ 6] : List Value)
  f6 : D 6 → t10 = .pointer (some ⟨g, 0, none⟩)
  f7 : D 7 → ∃ k : Nat, k < 7 ∧ t11 = iJ k
  f8 : D 8 → ∃ b k : Nat, w0.heap.size < b ∧ k < 7 ∧ t12 = .pointer (some ⟨b, k, none⟩) ∧ Blk w b 2 ([iJ 5, iJ 3, iJ 8, iJ 4, iJ 9, iJ 2, iJ 6] : List Value)
  f9 : D 9 → ∃ x : Int, (2 ≤ x ∧ x ≤ 9) ∧ t13 = iJ x
  f10 : D 10 → ∃ c k : Int, (c = 1 ∨ c = 2 ∨ c = 3) ∧ (2 ≤ k ∧ k ≤ 9) ∧ t14 = .agg #[iJ c, iJ k, iJ 0]
  f11 : D 11 → ∃ b : Nat, w0.heap.size < b ∧ t3 = .pointer (some ⟨b, 0, none⟩) ∧ Blk w b 43 [iJ 0, iJ 0, iJ 0]
def I5 (B g : Nat) (v : Value) (l : List Int) (w0 : World) (D : Nat → Prop) (a : Act) (w : World) : Prop :=
  ∃ t3 t4 t5 t6 t7 t8 t9 t10 t11 t12 t13 t14 : Value, a = ⟨#[.pointer (some ⟨g, 0, none⟩), uD, .pointer (some ⟨w0.heap.size, 0, none⟩), t3, t4, t5, t6, t7, t8, t9, t10, t11, t12, t13, t14, uD, uD, uD, uD, uD, uD, uD], []⟩ ∧ (CurAt B g v l w ∧ But g w0 w ∧ w0.heap.size < w.heap.size ∧ Blk w w0.heap.size 43 [iJ 0, iJ 0, iJ 0]) ∧ F5 g w0 D t3 t4 t5 t6 t7 t8 t9 t10 t11 t12 t13 t14 w
theorem F5.keep {g : Nat} {w0 w w1 : World} {D : Nat → Prop} {t3 t4 t5 t6 t7 t8 t9 t10 t11 t12 t13 t14 : Value} (h : F5 g w0 D t3 t4 t5 t6 t7 t8 t9 t10 t11 t12 t13 t14 w) (hg : g < w0.heap.size) (hb : But g w w1) : F5 g w0 D t3 t4 t5 t6 t7 t8 t9 t10 t11 t12 t13 t14 w1 := by
  obtain ⟨f0, f1, f2, f3, f4, f5, f6, f7, f8, f9, f10, f11⟩ := h
  exact ⟨fun hD => by obtain ⟨b, h1, rfl, hB⟩ := f0 hD; exact ⟨b, h1, rfl, hb.blk hB (by omega)⟩, f1, f2, fun hD => by obtain ⟨b, k, h1, h2, rfl, hB⟩ := f3 hD; exact ⟨b, k, h1, h2, rfl, hb.blk hB (by omega)⟩, f4, fun hD => by obtain ⟨b, h1, rfl, hB⟩ := f5 hD; exact ⟨b, h1, rfl, hb.blk hB (by omega)⟩, f6, f7, fun hD => by obtain ⟨b, k, h1, h2, rfl, hB⟩ := f8 hD; exact ⟨b, k, h1, h2, rfl, hb.blk hB (by omega)⟩, f9, f10, fun hD => by obtain ⟨b, h1, rfl, hB⟩ := f11 hD; exact ⟨b, h1, rfl, hb.blk hB (by omega)⟩⟩
theorem I5.base {B g : Nat} {v : Value} {l : List Int} {w0 w w1 : World} (h : CurAt B g v l w ∧ But g w0 w ∧ w0.heap.size < w.heap.size ∧ Blk w w0.heap.size 43 [iJ 0, iJ 0, iJ 0]) (hg : g < w0.heap.size) (hc : CurAt B g v l w1) (hb : But g w w1) : CurAt B g v l w1 ∧ But g w0 w1 ∧ w0.heap.size < w1.heap.size ∧ Blk w1 w0.heap.size 43 [iJ 0, iJ 0, iJ 0] :=
  ⟨hc, h.2.1.trans hb, by have := hb.size; omega, hb.blk h.2.2.2 (by omega)⟩
theorem F5.put0 {g : Nat} {w0 w : World} {D : Nat → Prop} {t3 t4 t5 t6 t7 t8 t9 t10 t11 t12 t13 t14 u : Value} (h : F5 g w0 D t3 t4 t5 t6 t7 t8 t9 t10 t11 t12 t13 t14 w) (hn : ∃ b : Nat, w0.heap.size < b ∧ u = .slice (some ⟨b, 0, none⟩) 5 5 ∧ Blk w b 2 ([iJ 1, iJ 2, iJ 2, iJ 3, iJ 3] : List Value)) : F5 g w0 (fun j => D j ∨ j = 0) t3 u t5 t6 t7 t8 t9 t10 t11 t12 t13 t14 w := by
  obtain ⟨f0, f1, f2, f3, f4, f5, f6, f7, f8, f9, f10, f11⟩ := h
  exact ⟨fun _ => hn, rR f1, rR f2, rR f3, rR f4, rR f5, rR f6, rR f7, rR f8, rR f9, rR f10, rR f11⟩
theorem F5.put1 {g : Nat} {w0 w : World} {D : Nat → Prop} {t3 t4 t5 t6 t7 t8 t9 t10 t11 t12 t13 t14 u : Value} (h : F5 g w0 D t3 t4 t5 t6 t7 t8 t9 t10 t11 t12 t13 t14 w) (hn : u = .pointer (some ⟨g, 0, none⟩)) : F5 g w0 (fun j => D j ∨ j = 1) t3 t4 u t6 t7 t8 t9 t10 t11 t12 t13 t14 w := by
  obtain ⟨f0, f1, f2, f3, f4, f5, f6, f7, f8, f9, f10, f11⟩ := h
  exact ⟨rR f0, fun _ => hn, rR f2, rR f3, rR f4, rR f5, rR f6, rR f7, rR f8, rR f9, rR f10, rR f11⟩
theorem F5.put2 {g : Nat} {w0 w : World} {D : Nat → Prop} {t3 t4 t5 t6 t7 t8 t9 t10 t11 t12 t13 t14 u : Value} (h : F5 g w0 D t3 t4 t5 t6 t7 t8 t9 t10 t11 t12 t13 t14 w) (hn : ∃ k : Nat, k < 5 ∧ u = iJ k) : F5 g w0 (fun j => D j ∨ j = 2) t3 t4 t5 u t7 t8 t9 t10 t11 t12 t13 t14 w := by
  obtain ⟨f0, f1, f2, f3, f4, f5, f6, f7, f8, f9, f10, f11⟩ := h
  exact ⟨rR f0, rR f1, fun _ => hn, rR f3, rR f4, rR f5, rR f6, rR f7, rR f8, rR f9, rR f10, rR f11⟩
theorem F5.put3 {g : Nat} {w0 w : World} {D : Nat → Prop} {t3 t4 t5 t6 t7 t8 t9 t10 t11 t12 t13 t14 u : Value} (h : F5 g w0 D t3 t4 t5 t6 t7 t8 t9 t10 t11 t12 t13 t14 w) (hn : ∃ b k : Nat, w0.heap.size < b ∧ k < 5 ∧ u = .pointer (some ⟨b, k, none⟩) ∧ Blk w b 2 ([iJ 1, iJ 2, iJ 2, iJ 3, iJ 3] : List Value)) : F5 g w0 (fun j => D j ∨ j = 3) t3 t4 t5 t6 u t8 t9 t10 t11 t12 t13 t14 w := by
  obtain ⟨f0, f1, f2, f3, f4, f5, f6, f7, f8, f9, f10, f11⟩ := h
  exact ⟨rR f0, rR f1, rR f2, fun _ => hn, rR f4, rR f5, rR f6, rR f7, rR f8, rR f9, rR f10, rR f11⟩
theorem F5.put4 {g : Nat} {w0 w : World} {D : Nat → Prop} {t3 t4 t5 t6 t7 t8 t9 t10 t11 t12 t13 t14 u : Value} (h : F5 g w0 D t3 t4 t5 t6 t7 t8 t9 t10 t11 t12 t13 t14 w) (hn : ∃ x : Int, (x = 1 ∨ x = 2 ∨ x = 3) ∧ u = iJ x) : F5 g w0 (fun j => D j ∨ j = 4) t3 t4 t5 t6 t7 u t9 t10 t11 t12 t13 t14 w := by
  obtain ⟨f0, f1, f2, f3, f4, f5, f6, f7, f8, f9, f10, f11⟩ := h
  exact ⟨rR f0, rR f1, rR f2, rR f3, fun _ => hn, rR f5, rR f6, rR f7, rR f8, rR f9, rR f10, rR f11⟩
theorem F5.put5 {g : Nat} {w0 w : World} {D : Nat → Prop} {t3 t4 t5 t6 t7 t8 t9 t10 t11 t12 t13 t14 u : Value} (h : F5 g w0 D t3 t4 t5 t6 t7 t8 t9 t10 t11 t12 t13 t14 w) (hn : ∃ b : Nat, w0.heap.size < b ∧ u = .slice (some ⟨b, 0, none⟩) 7 7 ∧ Blk w b 2 ([iJ 5, iJ 3, iJ 8, iJ 4, iJ 9, iJ 2, iJ 6] : List Value)) : F5 g w0 (fun j => D j ∨ j = 5) t3 t4 t5 t6 t7 t8 u t10 t11 t12 t13 t14 w := by
  obtain ⟨f0, f1, f2, f3, f4, f5, f6, f7, f8, f9, f10, f11⟩ := h
  exact ⟨rR f0, rR f1, rR f2, rR f3, rR f4, fun _ => hn, rR f6, rR f7, rR f8, rR f9, rR f10, rR f11⟩
theorem F5.put6 {g : Nat} {w0 w : World} {D : Nat → Prop} {t3 t4 t5 t6 t7 t8 t9 t10 t11 t12 t13 t14 u : Value} (h : F5 g w0 D t3 t4 t5 t6 t7 t8 t9 t10 t11 t12 t13 t14 w) (hn : u = .pointer (some ⟨g, 0, none⟩)) : F5 g w0 (fun j => D j ∨ j = 6) t3 t4 t5 t6 t7 t8 t9 u t11 t12 t13 t14 w := by
  obtain ⟨f0, f1, f2, f3, f4, f5, f6, f7, f8, f9, f10, f11⟩ := h
  exact ⟨rR f0, rR f1, rR f2, rR f3, rR f4, rR f5, fun _ => hn, rR f7, rR f8, rR f9, rR f10, rR f11⟩
theorem F5.put7 {g : Nat} {w0 w : World} {D : Nat → Prop} {t3 t4 t5 t6 t7 t8 t9 t10 t11 t12 t13 t14 u : Value} (h : F5 g w0 D t3 t4 t5 t6 t7 t8 t9 t10 t11 t12 t13 t14 w) (hn : ∃ k : Nat, k < 7 ∧ u = iJ k) : F5 g w0 (fun j => D j ∨ j = 7) t3 t4 t5 t6 t7 t8 t9 t10 u t12 t13 t14 w := by
  obtain ⟨f0, f1, f2, f3, f4, f5, f6, f7, f8, f9, f10, f11⟩ := h
  exact ⟨rR f0, rR f1, rR f2, rR f3, rR f4, rR f5, rR f6, fun _ => hn, rR f8, rR f9, rR f10, rR f11⟩
theorem F5.put8 {g : Nat} {w0 w : World} {D : Nat → Prop} {t3 t4 t5 t6 t7 t8 t9 t10 t11 t12 t13 t14 u : Value} (h : F5 g w0 D t3 t4 t5 t6 t7 t8 t9 t10 t11 t12 t13 t14 w) (hn : ∃ b k : Nat, w0.heap.size < b ∧ k < 7 ∧ u = .pointer (some ⟨b, k, none⟩) ∧ Blk w b 2 ([iJ 5, iJ 3, iJ 8, iJ 4, iJ 9, iJ 2, iJ 6] : List Value)) : F5 g w0 (fun j => D j ∨ j = 8) t3 t4 t5 t6 t7 t8 t9 t10 t11 u t13 t14 w := by
  obtain ⟨f0, f1, f2, f3, f4, f5, f6, f7, f8, f9, f10, f11⟩ := h
  exact ⟨rR f0, rR f1, rR f2, rR f3, rR f4, rR f5, rR f6, rR f7, fun _ => hn, rR f9, rR f10, rR f11⟩
theorem F5.put9 {g : Nat} {w0 w : World} {D : Nat → Prop} {t3 t4 t5 t6 t7 t8 t9 t10 t11 t12 t13 t14 u : Value} (h : F5 g w0 D t3 t4 t5 t6 t7 t8 t9 t10 t11 t12 t13 t14 w) (hn : ∃ x : Int, (2 ≤ x ∧ x ≤ 9) ∧ u = iJ x) : F5 g w0 (fun j => D j ∨ j = 9) t3 t4 t5 t6 t7 t8 t9 t10 t11 t12 u t14 w := by
  obtain ⟨f0, f1, f2, f3, f4, f5, f6, f7, f8, f9, f10, f11⟩ := h
  exact ⟨rR f0, rR f1, rR f2, rR f3, rR f4, rR f5, rR f6, rR f7, rR f8, fun _ => hn, rR f10, rR f11⟩
theorem F5.put10 {g : Nat} {w0 w : World} {D : Nat → Prop} {t3 t4 t5 t6 t7 t8 t9 t10 t11 t12 t13 t14 u : Value} (h : F5 g w0 D t3 t4 t5 t6 t7 t8 t9 t10 t11 t12 t13 t14 w) (hn : ∃ c k : Int, (c = 1 ∨ c = 2 ∨ c = 3) ∧ (2 ≤ k ∧ k ≤ 9) ∧ u = .agg #[iJ c, iJ k, iJ 0]) : F5 g w0 (fun j => D j ∨ j = 10) t3 t4 t5 t6 t7 t8 t9 t10 t11 t12 t13 u w := by
  obtain ⟨f0, f1, f2, f3, f4, f5, f6, f7, f8, f9, f10, f11⟩ := h
  exact ⟨rR f0, rR f1, rR f2, rR f3, rR f4, rR f5, rR f6, rR f7, rR f8, rR f9, fun _ => hn, rR f11⟩
theorem F5.put11 {g : Nat} {w0 w : World} {D : Nat → Prop} {t3 t4 t5 t6 t7 t8 t9 t10 t11 t12 t13 t14 u : Value} (h : F5 g w0 D t3 t4 t5 t6 t7 t8 t9 t10 t11 t12 t13 t14 w) (hn : ∃ b : Nat, w0.heap.size < b ∧ u = .pointer (some ⟨b, 0, none⟩) ∧ Blk w b 43 [iJ 0, iJ 0, iJ 0]) : F5 g w0 (fun j => D j ∨ j = 11) u t4 t5 t6 t7 t8 t9 t10 t11 t12 t13 t14 w := by
  obtain ⟨f0, f1, f2, f3, f4, f5, f6, f7, f8, f9, f10, f11⟩ := h
  exact ⟨rR f0, rR f1, rR f2, rR f3, rR f4, rR f5, rR f6, rR f7, rR f8, rR f9, rR f10, fun _ => hn⟩
set_option maxRecDepth 100000 in
set_option maxHeartbeats 4000000 in
theorem QH (B g : Nat) (v : Value) (l : List Int) (w0 : World) (h : CurAt B g v l w0) :
    Calls Tryz.prog 92 #[.pointer (some ⟨g, 0, none⟩)] w0 (DrewC B g v l w0 (fun c k y => RC c k y = true)) := by
  have hg := h.lt
  have hBg := h.1
  have H := Lib.hid h
  clear h
  go_enter Tryz.func92, Tryz.ntmps92
  go_wp2_with fail
  refine XF (I5 B g v l w0) (by kernel_rfl) (by kernel_rfl) (by kernel_rfl) (by decide) ?_ ?_ ?_
  · refine ⟨uD, uD, uD, uD, uD, uD, uD, uD, uD, uD, uD, uD, rfl, ⟨(H.out.alloc _).below ((Below.refl _ _).drew), ((But.refl g w0).alloc _).drew, by simp [World.drew], heap_alloc_new w0 _⟩, ⟨?_, ?_, ?_, ?_, ?_, ?_, ?_, ?_, ?_, ?_, ?_, ?_⟩⟩ <;> exact fun h => h.elim
  · intro i o ho hi
    have hi' : i + 1 < 13 := by simpa using hi
    have hh : i = 0 ∨ i = 1 ∨ i = 2 ∨ i = 3 ∨ i = 4 ∨ i = 5 ∨ i = 6 ∨ i = 7 ∨ i = 8 ∨ i = 9 ∨ i = 10 ∨ i = 11 := by omega
    clear hi hi'
    rcases hh with rfl | rfl | rfl | rfl | rfl | rfl | rfl | rfl | rfl | rfl | rfl | rfl
    all_goals
      simp only [List.getElem?_toArray, List.getElem?_cons_zero, List.getElem?_cons_succ, Option.some.injEq, List.size_toArray, List.length_cons, List.length_nil, Nat.reduceAdd, Nat.reduceSub] at ho
      subst ho
      rintro D a w K hpre ⟨t3, t4, t5, t6, t7, t8, t9, t10, t11, t12, t13, t14, rfl, hB, hF⟩ hK
    · rw [if_pos (by rfl)]
      go_simp
      have hb := (But.refl g w).alloc (.cells #[iJ 1, iJ 2, iJ 2, iJ 3, iJ 3] 2)
      exact hK.out _ _ ⟨_, _, _, _, _, _, _, _, _, _, _, _, rfl, I5.base hB hg (hB.1.alloc _) hb, (hF.keep hg hb).put0 ⟨w.heap.size, by omega, rfl, heap_alloc_new w _⟩⟩
    · rw [if_pos (by rfl)]
      go_simp
      exact hK.out _ _ ⟨_, _, _, _, _, _, _, _, _, _, _, _, rfl, hB, hF.put1 rfl⟩
    · obtain rfl := hF.f1 (hpre ⟨1, .data⟩ (by simp) (by rfl))
      rw [if_pos (by rfl)]
      go_simp
      refine (RA B g v l 5 w hB.1 (by omega)).mono ?_
      rintro e w1 ⟨r, rfl, ⟨p0, p1⟩, hc, hb⟩
      obtain ⟨k, rfl⟩ := Int.eq_ofNat_of_zero_le p0
      exact hK.out _ _ ⟨_, _, _, _, _, _, _, _, _, _, _, _, rfl, I5.base hB hg hc hb, (hF.keep hg hb).put2 ⟨k, by omega, rfl⟩⟩
    · obtain ⟨b, h1, rfl, hA⟩ := hF.f0 (hpre ⟨0, .data⟩ (by simp) (by rfl))
      obtain ⟨k, hk, rfl⟩ := hF.f2 (hpre ⟨2, .data⟩ (by simp) (by rfl))
      have i0 : (0 : Int) ≤ (k : Int) := by omega
      have i1 : (k : Int) < 5 := by omega
      rw [if_pos (by rfl)]
      go_simp
      exact hK.out _ _ ⟨_, _, _, _, _, _, _, _, _, _, _, _, rfl, hB, hF.put3 ⟨b, k, h1, hk, rfl, hA⟩⟩
    · obtain ⟨b, k, h1, hk, rfl, hA⟩ := hF.f3 (hpre ⟨3, .data⟩ (by simp) (by rfl))
      obtain ⟨x, hx, A1⟩ : ∃ x : Int, (x = 1 ∨ x = 2 ∨ x = 3) ∧ w.cell? ⟨b, k, none⟩ = some (iJ x) := by
        have : k = 0 ∨ k = 1 ∨ k = 2 ∨ k = 3 ∨ k = 4 := by omega
        rcases this with rfl | rfl | rfl | rfl | rfl
        · exact ⟨1, by omega, hA.cell 0⟩
        · exact ⟨2, by omega, hA.cell 1⟩
        · exact ⟨2, by omega, hA.cell 2⟩
        · exact ⟨3, by omega, hA.cell 3⟩
        · exact ⟨3, by omega, hA.cell 4⟩
      rw [if_pos (by rfl)]
      go_simp
      exact hK.out _ _ ⟨_, _, _, _, _, _, _, _, _, _, _, _, rfl, hB, hF.put4 ⟨x, hx, rfl⟩⟩
    · rw [if_pos (by rfl)]
      go_simp
      have hb := (But.refl g w).alloc (.cells #[iJ 5, iJ 3, iJ 8, iJ 4, iJ 9, iJ 2, iJ 6] 2)
      exact hK.out _ _ ⟨_, _, _, _, _, _, _, _, _, _, _, _, rfl, I5.base hB hg (hB.1.alloc _) hb, (hF.keep hg hb).put5 ⟨w.heap.size, by omega, rfl, heap_alloc_new w _⟩⟩
    · rw [if_pos (by rfl)]
      go_simp
      exact hK.out _ _ ⟨_, _, _, _, _, _, _, _, _, _, _, _, rfl, hB, hF.put6 rfl⟩
    · obtain rfl := hF.f6 (hpre ⟨6, .data⟩ (by simp) (by rfl))
      rw [if_pos (by rfl)]
      go_simp
      refine (RA B g v l 7 w hB.1 (by omega)).mono ?_
      rintro e w1 ⟨r, rfl, ⟨p0, p1⟩, hc, hb⟩
      obtain ⟨k, rfl⟩ := Int.eq_ofNat_of_zero_le p0
      exact hK.out _ _ ⟨_, _, _, _, _, _, _, _, _, _, _, _, rfl, I5.base hB hg hc hb, (hF.keep hg hb).put7 ⟨k, by omega, rfl⟩⟩
    · obtain ⟨b, h1, rfl, hA⟩ := hF.f5 (hpre ⟨5, .data⟩ (by simp) (by rfl))
      obtain ⟨k, hk, rfl⟩ := hF.f7 (hpre ⟨7, .data⟩ (by simp) (by rfl))
      have i0 : (0 : Int) ≤ (k : Int) := by omega
      have i1 : (k : Int) < 7 := by omega
      rw [if_pos (by rfl)]
      go_simp
      exact hK.out _ _ ⟨_, _, _, _, _, _, _, _, _, _, _, _, rfl, hB, hF.put8 ⟨b, k, h1, hk, rfl, hA⟩⟩
    · obtain ⟨b, k, h1, hk, rfl, hA⟩ := hF.f8 (hpre ⟨8, .data⟩ (by simp) (by rfl))
      obtain ⟨x, hx, A1⟩ : ∃ x : Int, (2 ≤ x ∧ x ≤ 9) ∧ w.cell? ⟨b, k, none⟩ = some (iJ x) := by
        have : k = 0 ∨ k = 1 ∨ k = 2 ∨ k = 3 ∨ k = 4 ∨ k = 5 ∨ k = 6 := by omega
        rcases this with rfl | rfl | rfl | rfl | rfl | rfl | rfl
        · exact ⟨5, by omega, hA.cell 0⟩
        · exact ⟨3, by omega, hA.cell 1⟩
        · exact ⟨8, by omega, hA.cell 2⟩
        · exact ⟨4, by omega, hA.cell 3⟩
        · exact ⟨9, by omega, hA.cell 4⟩
        · exact ⟨2, by omega, hA.cell 5⟩
        · exact ⟨6, by omega, hA.cell 6⟩
      rw [if_pos (by rfl)]
      go_simp
      exact hK.out _ _ ⟨_, _, _, _, _, _, _, _, _, _, _, _, rfl, hB, hF.put9 ⟨x, hx, rfl⟩⟩
    · obtain ⟨c, hc, rfl⟩ := hF.f4 (hpre ⟨4, .data⟩ (by simp) (by rfl))
      obtain ⟨k, hk, rfl⟩ := hF.f9 (hpre ⟨9, .data⟩ (by simp) (by rfl))
      rw [if_pos (by rfl)]
      go_simp
      exact hK.out _ _ ⟨_, _, _, _, _, _, _, _, _, _, _, _, rfl, hB, hF.put10 ⟨c, k, hc, hk, rfl⟩⟩
    · rw [if_pos (by rfl)]
      go_simp
      have hb := (But.refl g w).alloc (.cells #[iJ 0, iJ 0, iJ 0] 43)
      exact hK.out _ _ ⟨_, _, _, _, _, _, _, _, _, _, _, _, rfl, I5.base hB hg (hB.1.alloc _) hb, (hF.keep hg hb).put11 ⟨w.heap.size, by omega, rfl, heap_alloc_new w _⟩⟩
  · intro o D a w' ho hD hI
    simp only [List.getElem?_toArray, List.getElem?_cons_zero, List.getElem?_cons_succ, Option.some.injEq, List.size_toArray, List.length_cons, List.length_nil, Nat.reduceAdd, Nat.reduceSub] at ho
    subst ho
    obtain ⟨t3, t4, t5, t6, t7, t8, t9, t10, t11, t12, t13, t14, rfl, hB, hF⟩ := hI
    obtain ⟨b, h1, rfl, hK⟩ := hF.f11 (hD 11 (by simp))
    obtain ⟨c, k, hc, hk, rfl⟩ := hF.f10 (hD 10 (by simp))
    obtain ⟨y0, y1, y2, yf⟩ := vD hK
    have hlt := hK.lt
    clear hD hF
    rw [if_pos (by rfl)]
    go_simp
    rename_i hgo
    refine hgo _ _ ?_
    clear hgo
    generalize hW : ((w'.setCell ⟨b, 0, none⟩ (iJ c)).setCell ⟨b, 1, none⟩ (iJ k)).setCell ⟨b, 2, none⟩ (iJ 0) = W
    have hbW : But b w' W := by rw [← hW]; exact ((But.set b 0 _ _).trans (But.set b 1 _ _)).trans (But.set b 2 _ _)
    have hKW : Blk W b 43 [iJ c, iJ k, iJ 0] := by
      rw [← hW]
      exact ((hK.set 0 (iJ c)).set 1 (iJ k)).set 2 (iJ 0)
    have hCW := hB.1.but hbW (by omega) (by omega)
    have hRW := hbW.blk hB.2.2.2 (by omega)
    have hGW : But g w0 W := by rw [← hW]; exact ((hB.2.1.fresh (by omega) _ _).fresh (by omega) _ _).fresh (by omega) _ _
    clear hW hbW hK hlt y0 y1 y2 yf hB
    obtain ⟨y0, y1, y2, yf⟩ := vD hKW
    obtain ⟨z0, z1, z2, zf⟩ := vD hRW
    have HH := Lib.hid (And.intro hCW (And.intro hGW (And.intro hRW hKW)))
    clear hCW hGW hRW hKW
    by_cases h2 : c = 2
    · subst h2
      go_wp2_with fail
      refine (RA B g v l 100 _ HH.out.1 (by omega)).mono ?_
      rintro e w1 ⟨r, rfl, ⟨p0, p1⟩, hc1, hb1⟩
      have hK1 := hb1.blk HH.out.2.2.2 (show b ≠ g by omega)
      have hR1 := hb1.blk HH.out.2.2.1 (show w0.heap.size ≠ g by omega)
      have hG1 := HH.out.2.1.trans hb1
      clear y0 y1 y2 yf z0 z1 z2 zf
      obtain ⟨y0, y1, y2, yf⟩ := vD hK1
      obtain ⟨z0, z1, z2, zf⟩ := vD hR1
      have HH := Lib.hid (And.intro hc1 (And.intro hG1 (And.intro hR1 hK1)))
      clear hc1 hG1 hR1 hK1 hb1
      go_wp2
      exact bodyPost_ret (dH rfl rfl ((((((But.set b 2 w1 (iJ r)).blk HH.out.2.2.1 (show w0.heap.size ≠ b by omega)).set 0 (iJ 2)).set 1 (iJ k)).set 2 (iJ r)))) rfl ⟨2, k, r, rfl, by simp [RC, ZA]; omega, ((((HH.out.1.fresh (k := b) (by omega) (by omega) 2 _).fresh (by omega) (by omega) 0 _).fresh (by omega) (by omega) 1 _).fresh (by omega) (by omega) 2 _), ((((HH.out.2.1.fresh (k := b) (by omega) 2 _).fresh (by omega) 0 _).fresh (by omega) 1 _).fresh (by omega) 2 _)⟩
    · have h2' : (c == 2) = false := by simpa using h2
      go_wp2
      exact bodyPost_ret (dH rfl rfl (((HH.out.2.2.1.set 0 (iJ c)).set 1 (iJ k)).set 2 (iJ 0))) rfl ⟨c, k, 0, rfl, by simp [RC, ZA, h2]; omega, (((HH.out.1.fresh (by omega) (by omega) 0 _).fresh (by omega) (by omega) 1 _).fresh (by omega) (by omega) 2 _), (((HH.out.2.1.fresh (by omega) 0 _).fresh (by omega) 1 _).fresh (by omega) 2 _)⟩
end Go.Proofs.YtfjafncipjdnfaaGreat
