/- Small lemmas that every text of this seat uses: worlds, lists of a known length, a struct's cells out of its reading. -/
import Derived.Test.YthllpgjggmdmmaaRows
import Derived.WalkKit
import Derived.ProofKit
import Derived.OpenShut
import Derived.ChangeOld
import Derived.Carry
import Derived.Below
import Derived.Lib.Hide
namespace Go.Proofs.Ythllpgjggmdmmaa
open Go.ChangeShapes Go.WideShapes Go.ChangeAt Go.RowKit

theorem own : ownKnob Try.prog.godebug = none := by kernel_rfl
theorem laidOut : laidOutB Try.prog = true := by kernel_rfl

theorem bcell {B : Nat} {W w1 : World} (hb : Below B W w1) : (∀ b o, b < B → w1.cell? ⟨b, o, none⟩ = W.cell? ⟨b, o, none⟩) ∧ (∀ b o, b < B → w1.frozen? ⟨b, o, none⟩ = W.frozen? ⟨b, o, none⟩) :=
  ⟨fun b o h => hb.cell (p := ⟨b, o, none⟩) h, fun b o h => hb.frozen (p := ⟨b, o, none⟩) h⟩

theorem len3 {α : Type} {l : List α} (h : l.length = 3) : ∃ a b c, l = [a, b, c] := by
  match l, h with
  | [a, b, c], _ => exact ⟨a, b, c, rfl⟩
theorem len8 {α : Type} {l : List α} (h : l.length = 8) : ∃ a b c d e f g i, l = [a, b, c, d, e, f, g, i] := by
  match l, h with
  | [a, b, c, d, e, f, g, i], _ => exact ⟨a, b, c, d, e, f, g, i, rfl⟩

/-- 'n' fits an int64. -/
def In64 (n : Int) : Prop := -9223372036854775808 ≤ n ∧ n ≤ 9223372036854775807
theorem in64_wf {n : Int} (h : (Lit.int .i64 n).wf = true) : In64 n := by
  simpa [In64, Lit.wf, IntKind.min, IntKind.max, IntKind.signed, IntKind.bits] using h

/-- One field of a struct that reads. -/
theorem field_of {H : Type} {enc : TypeId × Value → H} {P : Program} {w : World} {base : Nat} {spare : Nat → Bool} {held : Bool} {t : TypeId} {fs : Array Field} {fuel : Nat} {cs : List Value} {x : DataW H × List MemPlace}
    (ht : P.underlying t = some (.struct fs)) (h : DataW.trod enc P w base spare held fuel t cs = some x) (i : Nat) (f : Field) (hf : fs[i]? = some f) :
    ∃ n y, DataW.trod enc P w base spare held n f.type ((cs.drop f.offset).take (P.cellsOf f.type)) = some y := by
  obtain ⟨xs, n, _, _, _, hlen, hg⟩ := DataW.trod_struct ht h
  have hi : i < fs.size := (Array.getElem?_eq_some_iff.1 hf).1
  exact ⟨n, _, (hg i f hf).trans (List.getElem?_eq_getElem (by omega))⟩

theorem take_one {α : Type} {l : List α} {n : Nat} {a : α} (h : (l.drop n).take 1 = [a]) : l[n]? = some a := by
  have e : ((l.drop n).take 1)[0]? = some a := by rw [h]; rfl
  simpa using e

theorem int_field {H : Type} {enc : TypeId × Value → H} {P : Program} {w : World} {base : Nat} {spare : Nat → Bool} {held : Bool} {t : TypeId} {fs : Array Field} {fuel : Nat} {cs : List Value} {x : DataW H × List MemPlace}
    (ht : P.underlying t = some (.struct fs)) (h : DataW.trod enc P w base spare held fuel t cs = some x) (i off : Nat) (f : Field) (hf : fs[i]? = some f) (ho : f.offset = off) (hc : P.cellsOf f.type = 1) (hu : P.underlying f.type = some (.int .i64)) :
    ∃ n, cs[off]? = some (.int .i64 n) ∧ In64 n := by
  obtain ⟨n, y, hy⟩ := field_of ht h i f hf
  obtain ⟨k, e, _, hw⟩ := DataW.trod_int hu hy
  rw [ho, hc] at e
  exact ⟨k, take_one e, in64_wf hw⟩

theorem bool_field {H : Type} {enc : TypeId × Value → H} {P : Program} {w : World} {base : Nat} {spare : Nat → Bool} {held : Bool} {t : TypeId} {fs : Array Field} {fuel : Nat} {cs : List Value} {x : DataW H × List MemPlace}
    (ht : P.underlying t = some (.struct fs)) (h : DataW.trod enc P w base spare held fuel t cs = some x) (i off : Nat) (f : Field) (hf : fs[i]? = some f) (ho : f.offset = off) (hc : P.cellsOf f.type = 1) (hu : P.underlying f.type = some .bool) :
    ∃ n, cs[off]? = some (.bool n) := by
  obtain ⟨n, y, hy⟩ := field_of ht h i f hf
  obtain ⟨k, e, _⟩ := DataW.trod_bool hu hy
  rw [ho, hc] at e
  exact ⟨k, take_one e⟩

/-- The cells of a node of the laws' own type, out of its reading. -/
theorem node_cells {H : Type} {enc : TypeId × Value → H} {w : World} {base : Nat} {spare : Nat → Bool} {held : Bool} {fuel : Nat} {cs : List Value} {x : DataW H × List MemPlace}
    (h : DataW.trod enc Try.prog w base spare held fuel 81 cs = some x) :
    ∃ (k v l r o : Int) (g : Bool) (lt rt : Int), cs = [.int .i64 k, .int .i64 v, .int .i64 l, .int .i64 r, .int .i64 o, .bool g, .int .i64 lt, .int .i64 rt] ∧ In64 k ∧ In64 v ∧ In64 l ∧ In64 r ∧ In64 o ∧ In64 lt ∧ In64 rt := by
  obtain ⟨_, _, _, _, hl, _, _⟩ := DataW.trod_struct Try.underlying81 h
  have hC : Try.prog.cellsOf 81 = 8 := by kernel_rfl
  obtain ⟨k, e0, b0⟩ := int_field Try.underlying81 h 0 0 _ rfl rfl (by kernel_rfl) Try.underlying2
  obtain ⟨v, e1, b1⟩ := int_field Try.underlying81 h 1 1 _ rfl rfl (by kernel_rfl) Try.underlying2
  obtain ⟨l, e2, b2⟩ := int_field Try.underlying81 h 2 2 _ rfl rfl (by kernel_rfl) Try.underlying2
  obtain ⟨r, e3, b3⟩ := int_field Try.underlying81 h 3 3 _ rfl rfl (by kernel_rfl) Try.underlying2
  obtain ⟨o, e4, b4⟩ := int_field Try.underlying81 h 4 4 _ rfl rfl (by kernel_rfl) Try.underlying2
  obtain ⟨g, e5⟩ := bool_field Try.underlying81 h 5 5 _ rfl rfl (by kernel_rfl) Try.underlying4
  obtain ⟨lt, e6, b6⟩ := int_field Try.underlying81 h 6 6 _ rfl rfl (by kernel_rfl) Try.underlying2
  obtain ⟨rt, e7, b7⟩ := int_field Try.underlying81 h 7 7 _ rfl rfl (by kernel_rfl) Try.underlying2
  rw [hC] at hl
  obtain ⟨a0, a1, a2, a3, a4, a5, a6, a7, rfl⟩ := len8 hl
  simp only [List.getElem?_cons_zero, List.getElem?_cons_succ, Option.some.injEq] at e0 e1 e2 e3 e4 e5 e6 e7
  subst e0 e1 e2 e3 e4 e5 e6 e7
  exact ⟨k, v, l, r, o, g, lt, rt, rfl, b0, b1, b2, b3, b4, b6, b7⟩

theorem agg_eta {cs : Array Value} {l : List Value} (h : (Value.agg cs).cells.toList = l) : cs = l.toArray := by
  cases cs
  simpa [Value.cells] using h

end Go.Proofs.Ythllpgjggmdmmaa
