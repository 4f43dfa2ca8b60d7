import Derived.Test.YtfjafncipjdnfaaGreatStep16
namespace Go.Proofs.YtfjafncipjdnfaaGreat
open Go.ChangeShapes Go.WideShapes Go.ChangeAt Go.RowKit
set_option linter.unusedVariables false
set_option linter.unusedSimpArgs false
section
variable {R : Type} {F : R → List Value} {z : Nat}
def lC (F : R → List Value) (l : List R) : List Value := l.flatMap F
theorem iF (hF : ∀ r, (F r).length = z) (l : List R) : (lC F l).length = l.length * z := FF F z hF l
theorem GJ (hF : ∀ r, (F r).length = z) {l : List R} {k : Nat} {n : R} (hn : l[k]? = some n) (p : List Value) : lC F l ++ p = lC F (l.take k) ++ (F n ++ (lC F (l.drop (k + 1)) ++ p)) ∧ (lC F (l.take k)).length = k * z := by
  have hk : k < l.length := (List.getElem?_eq_some_iff.1 hn).1
  have hm' : l[k] = n := by rw [List.getElem?_eq_getElem hk] at hn; simpa using hn
  have e1 : l = l.take k ++ (n :: l.drop (k + 1)) := by rw [← hm', ← List.drop_eq_getElem_cons hk, List.take_append_drop]
  have hlt : (l.take k).length = k := by simp; omega
  refine ⟨?_, by rw [iF hF, hlt]⟩
  conv => lhs; rw [e1]
  simp [lC]
theorem oK (hF : ∀ r, (F r).length = z) {l : List R} {p : List Value} {k j : Nat} {n : R} {v : Value} (hn : l[k]? = some n) (hv : (F n)[j]? = some v) : (lC F l ++ p)[0 + k * z + j]? = some v := by
  obtain ⟨e, el⟩ := GJ hF hn p
  have hj : j < (F n).length := (List.getElem?_eq_some_iff.1 hv).1
  rw [e, Nat.zero_add, ← el, List.getElem?_append_right (by omega), Nat.add_sub_cancel_left, List.getElem?_append_left hj]
  exact hv
theorem fL (hF : ∀ r, (F r).length = z) {l : List R} {p : List Value} {k : Nat} (hk : k < l.length) (n : R) : LD (lC F l ++ p) (0 + k * z) (F n) = lC F (l.set k n) ++ p := by
  obtain ⟨e, el⟩ := GJ hF (List.getElem?_eq_getElem hk) p
  obtain ⟨e', el'⟩ := GJ hF (l := l.set k n) (List.getElem?_set_self hk) p
  rw [e, e', List.take_set_of_le (Nat.le_refl _), List.drop_set_of_lt (by omega), Nat.zero_add, ← el]
  exact ZF (F n) (lC F (l.take k)) (F l[k]) _ (by rw [hF, hF])
theorem fN (hF : ∀ r, (F r).length = z) {l : List R} {p : List Value} {k : Nat} (hk : k < l.length) : 0 + k * z + z ≤ (lC F l ++ p).length := by
  have := Nat.mul_le_mul_right z (show k + 1 ≤ l.length from hk)
  rw [Nat.succ_mul] at this
  rw [List.length_append, iF hF]
  omega
theorem nK (l : List R) (n : R) (p : List Value) : lC F l ++ F n ++ p = lC F (l ++ [n]) ++ p := by simp [lC]
def SlR (F : R → List Value) (z : Nat) (w : World) (v : Value) (l : List R) : Prop := Sl w v z l.length (lC F l)
theorem SlR.at (hF : ∀ r, (F r).length = z) {w : World} {v : Value} {l : List R} (hz : 0 < z) (h : SlR F z w v l) (hn : l ≠ []) : ∃ b off cap, v = .slice (some ⟨b, off, none⟩) l.length cap ∧ l.length ≤ cap ∧ cap ≤ maxLen ∧ b < w.heap.size ∧ ∀ k n, l[k]? = some n → ∀ j v, (F n)[j]? = some v → w.cell? ⟨b, off + k * z + j, none⟩ = some v := by
  obtain ⟨a, cap, rfl, h1, h2, h3, h4⟩ := h
  have hlen : 0 < l.length := List.length_pos_iff.2 hn
  rcases h4 with h4 | ⟨b, off, rfl, hc⟩
  · omega
  · have key : ∀ k n, l[k]? = some n → ∀ j v, (F n)[j]? = some v → w.cell? ⟨b, off + k * z + j, none⟩ = some v := fun k n hk j v hv => by
      have e := oK hF (p := []) hk hv
      rw [List.append_nil] at e
      have hi : 0 + k * z + j < (lC F l).length := (List.getElem?_eq_some_iff.1 e).1
      have e2 := hc (0 + k * z + j) hi
      rw [e] at e2
      rw [← e2]
      congr 2
      omega
    refine ⟨b, off, cap, rfl, h1, h2, ?_, key⟩
    have hF0 := hF l[0]
    have h0 := key 0 l[0] (List.getElem?_eq_getElem hlen) 0 ((F l[0])[0]'(by omega)) (List.getElem?_eq_getElem (by omega))
    rcases Nat.lt_or_ge b w.heap.size with hb | hb
    · exact hb
    · simp [World.cell?, Array.getElem?_eq_none hb] at h0
theorem XD {w0 w : World} {L : List Bk} (hM : Mem w0 w L) {b o : Nat} {cs : List Value} (hb : b < w0.heap.size) (H : ∀ j v, cs[j]? = some v → w0.cell? ⟨b, o + j, none⟩ = some v) : ∀ j v, cs[j]? = some v → w.cell? ⟨b, o + j, none⟩ = some v := fun j v hv => by
  rw [hM.below.cell (p := ⟨b, o + j, none⟩) hb]
  exact H j v hv
theorem mE {l : List R} {f : R → Bool} {k : Nat} {n : R} (hn : l[k]? = some n) (h : f n = false) : l.all f = false := by
  rw [List.all_eq_false]
  exact ⟨n, List.mem_of_getElem? hn, by simp [h]⟩
theorem TJ {l : List R} {f : R → Bool} (h : ∀ (j : Nat) (n : R), j < l.length → l[j]? = some n → f n = true) : l.all f = true := by
  rw [List.all_eq_true]
  intro n hn
  obtain ⟨j, hj, e⟩ := List.getElem_of_mem hn
  exact h j n hj (by rw [List.getElem?_eq_getElem hj, e])
end
theorem Mem.rest {w0 w : World} {b : Bk} {L : List Bk} (h : Mem w0 w (b :: L)) : Mem w0 w L := Mem.tail (E := [b]) h
structure DD where
  task : Int
  c : Int
  k : Int
  v : Int
  begin_ : Int
  end_ : Int
  reply : Int
  out : Int
def DD.cells (d : DD) : List Value := [iJ d.task, iJ d.c, iJ d.k, iJ d.v, iJ d.begin_, iJ d.end_, iJ d.reply, iJ d.out]
theorem zL (d : DD) : d.cells.length = 8 := rfl
theorem OE (d : DD) : d.cells.all (·.oneCell') = true := by simp [DD.cells, Value.oneCell']
theorem fE (h : HD) : h.cells.length = 17 := rfl
def LA (l : List HD) : List Value := lC HD.cells l
def mB (l : List DD) : List Value := lC DD.cells l
theorem uA (l : List HD) : (LA l).length = l.length * 17 := iF fE l
theorem zA (l : List DD) : (mB l).length = l.length * 8 := iF zL l
theorem KM {l : List HD} {p : List Value} {k j : Nat} {n : HD} {v : Value} (hn : l[k]? = some n) (hv : n.cells[j]? = some v) : (LA l ++ p)[0 + k * 17 + j]? = some v := oK fE hn hv
theorem YI {l : List HD} {p : List Value} {k : Nat} (hk : k < l.length) : 0 + k * 17 + 17 ≤ (LA l ++ p).length := fN fE hk
theorem SG (l : List HD) (n : HD) (p : List Value) : LA l ++ n.cells ++ p = LA (l ++ [n]) ++ p := nK l n p
theorem VG {l : List HD} {p : List Value} {k : Nat} (hk : k < l.length) (n : HD) : LD (LA l ++ p) (0 + k * 17) n.cells = LA (l.set k n) ++ p := fL fE hk n
theorem MM (l : List DD) (n : DD) (p : List Value) : mB l ++ n.cells ++ p = mB (l ++ [n]) ++ p := nK l n p
abbrev SlH := SlR HD.cells 17
abbrev SlD := SlR DD.cells 8
theorem SlH.below {w w' : World} {v : Value} {l : List HD} (h : SlH w v l) (hb : Below w.heap.size w w') : SlH w' v l := Sl.below (by omega) h hb
theorem SlD.below {w w' : World} {v : Value} {l : List DD} (h : SlD w v l) (hb : Below w.heap.size w w') : SlD w' v l := Sl.below (by omega) h hb
theorem JB : (Tryz.prog.info? 45).map (fun i => (i.zero, i.size, i.bytes)) = some (some (.agg #[iJ 0, iJ 0, iJ 0, iJ 0, iJ 0, iJ 0, iJ 0, iJ 0, iJ 0, iJ 0, iJ 0, iJ 0, iJ 0, .bool false, iJ 0, iJ 0, iJ 0]), 17, 136) := by kernel_rfl
theorem aC : (Tryz.prog.info? 156).map (fun i => (i.zero, i.size, i.bytes)) = some (some (.agg #[iJ 0, iJ 0, iJ 0, iJ 0, iJ 0, iJ 0, iJ 0, iJ 0]), 8, 64) := by kernel_rfl
structure WD where
  l : List ND
  c : List Int
  hs : List HD
  ds : List DD
  now : Int
abbrev wv (a1 : Option Addr) (k1 : Nat) (a2 : Option Addr) (k2 : Nat) (a3 : Option Addr) (k3 : Nat) (a4 : Option Addr) (k4 : Nat) (d : WD) : List Value := [.slice a1 d.l.length k1, .slice a2 d.c.length k2, .slice a3 d.hs.length k3, .slice a4 d.ds.length k4, iJ d.now]
def MC (many now : Int) (d : DD) : Bool := ZA d.task 0 (many - 1) && NG d.c d.k d.v d.reply && ZA d.begin_ 0 now && ZA d.end_ 0 now && ZA d.out 0 999
def JA (w : WD) : Bool := OA w.l w.c && !((w.hs.length : Int) != (w.c.length : Int)) && !decide ((w.ds.length : Int) > 1000) && ZA w.now 0 20000 && w.hs.all (fun h => SA h && !decide (h.begin_ > w.now)) && w.ds.all (MC w.hs.length w.now)
def SlW (w : World) (u x y z : Value) (d : WD) : Prop := NSl w u d.l ∧ SlI w x d.c ∧ SlH w y d.hs ∧ SlD w z d.ds
def nF (d : WD) : Prop := d.l.length ≤ 1048576 ∧ d.c.length ≤ 1048576 ∧ d.hs.length ≤ 1048576 ∧ d.ds.length ≤ 1048576
end Go.Proofs.YtfjafncipjdnfaaGreat
