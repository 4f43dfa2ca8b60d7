import Derived.Test.YtfjafncipjdnfaaGreatOpen
import Derived.Test.YtfjafncipjdnfaaGreatCur2
namespace Go.Proofs.YtfjafncipjdnfaaGreat
open Go.ChangeShapes Go.WideShapes Go.ChangeAt Go.RowKit Go.Deep
set_option linter.unusedVariables false
structure Byte where
  n : Int
  lo : 0 ≤ n
  hi : n ≤ 255
instance : Inhabited Byte := ⟨⟨0, by decide, by decide⟩⟩
theorem yL (l : List Byte) : (l.flatMap fun b => [Value.int .u8 b.n]) = (l.map Byte.n).map (Value.int .u8) := by
  induction l with
  | nil => rfl
  | cons a r ih => simp only [List.flatMap_cons, ih]; rfl
theorem tO {n : Int} (h : (Lit.int .u8 n).wf = true) : 0 ≤ n ∧ n ≤ 255 := by
  simpa [Lit.wf, IntKind.min, IntKind.max, IntKind.signed, IntKind.bits] using h
set_option maxRecDepth 100000 in
theorem lL {H : Type} {enc : TypeId × Value → H} {w : World} {base b0 : Nat} {spare : Nat → Bool} {held : Bool} {v : Value} {d : DataW H} {p : List MemPlace} (hv : Value.okWide Tryz.prog w .any b0 22 v)
    (h : DataW.Trod enc Tryz.prog w base spare held 22 v d p) : ∃ l : List Int, Bts w.heap.size w v l := by
  obtain ⟨a, len, cap, rfl⟩ := okWide_slice Tryz.underlying22 hv
  obtain ⟨l, hl, hs⟩ := vM (fun b : Byte => [Value.int .u8 b.n]) 1 (fun _ => rfl) (by omega) Tryz.underlying22 (by kernel_rfl) (fun n cs x hx => by
    obtain ⟨k, e, _, hw⟩ := DataW.trod_int Tryz.underlying5 hx
    have hb := tO hw
    exact ⟨⟨k, hb.1, hb.2⟩, e⟩) h
  subst hl
  rw [yL] at hs
  refine ⟨l.map Byte.n, Bts.of_sl (by simpa using hs) (fun x hx => ?_)⟩
  obtain ⟨b, -, rfl⟩ := List.mem_map.1 hx
  exact ⟨b.lo, b.hi⟩
end Go.Proofs.YtfjafncipjdnfaaGreat
