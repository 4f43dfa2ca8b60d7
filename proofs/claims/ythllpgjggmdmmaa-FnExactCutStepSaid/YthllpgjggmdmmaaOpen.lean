/- An argument that is a slice of nodes, opened. -/
import Derived.Test.YthllpgjggmdmmaaRows1
import Derived.Test.YthllpgjggmdmmaaRows2
namespace Go.Proofs.Ythllpgjggmdmmaa
open Go.ChangeShapes Go.WideShapes Go.ChangeAt Go.RowKit Go.Deep
set_option linter.unusedVariables false

instance : Inhabited ND := ⟨⟨0, 0, 0, 0, 0, false, 0, 0⟩⟩
theorem add_at (b off : Nat) (i : Nat) : (⟨b, off, none⟩ : Addr).add i = ⟨b, off + i, none⟩ := by
  unfold Addr.add
  split <;> simp_all

/-- A slice's cells, element by element, whatever the element is. 'f' tells an element's cells. -/
theorem open_rows {H : Type} {enc : TypeId × Value → H} {P : Program} {w : World} {base : Nat} {spare : Nat → Bool} {held : Bool} {t e : TypeId} {α : Type} [Inhabited α] (f : α → List Value) (sz : Nat) (hf : ∀ a, (f a).length = sz) (hsz : 0 < sz)
    (ht : P.underlying t = some (.slice e)) (hC : P.cellsOf e = sz) (hel : ∀ n cs x, DataW.trod enc P w base spare held n e cs = some x → ∃ a, cs = f a)
    {a : Option Addr} {len cap : Nat} {d : DataW H} {p : List MemPlace} (h : DataW.Trod enc P w base spare held t (.slice a len cap) d p) :
    ∃ l : List α, l.length = len ∧ Sl w (.slice a len cap) sz len (l.flatMap f) := by
  obtain ⟨fuel, hfu⟩ := h
  rcases open_slice ht hfu with ⟨hcs, _⟩ | ⟨a', len', cap', m, n, D, Pl, hcs, hb, hl, hm, hmm, hx, hi⟩
  · simp [Value.cells] at hcs
    obtain ⟨rfl, rfl, rfl⟩ := hcs
    exact ⟨[], rfl, none, 0, rfl, Nat.le_refl _, Nat.zero_le _, by simp, .inl rfl⟩
  · simp [Value.cells] at hcs
    obtain ⟨rfl, rfl, rfl⟩ := hcs
    have hlm : len ≤ m := by rw [hmm]; split <;> omega
    have key : ∀ i, i < len → ∃ x : α, w.cells? base (a'.add (i * sz)) sz = some (f x) := fun i hil => by
      obtain ⟨cs', h1, h2⟩ := hi i (by omega)
      obtain ⟨x, rfl⟩ := hel _ _ _ h2
      rw [hC] at h1
      exact ⟨x, h1⟩
    obtain ⟨F, hF⟩ := choose_lt key
    have hll : ((List.range len).map F).length = len := by simp
    refine ⟨(List.range len).map F, hll, some a', cap, rfl, hl, hm, by rw [flat_len f sz hf, hll], ?_⟩
    by_cases h0 : len = 0
    · exact .inl h0
    · right
      obtain ⟨b, off, spot⟩ := a'
      have hs : spot = none := by
        obtain ⟨_, hlen, hat⟩ := World.cells?_some (hF 0 (by omega))
        have h1 := hat 0 hsz
        have h2 : (f (F 0))[0]? = some ((f (F 0))[0]'(by rw [hf]; exact hsz)) := List.getElem?_eq_getElem _
        rw [h2] at h1
        cases spot with
        | none => rfl
        | some s =>
          exfalso
          revert h1
          unfold World.cell?
          simp only [Addr.add]
          split <;> simp_all
      subst hs
      refine ⟨b, off, rfl, fun i hi2 => ?_⟩
      have hi3 : i < len * sz := by rwa [flat_len f sz hf, hll] at hi2
      have hq : i / sz < len := Nat.div_lt_of_lt_mul (by rwa [Nat.mul_comm])
      have hr : i % sz < sz := Nat.mod_lt _ hsz
      have he : i / sz * sz + i % sz = i := by rw [Nat.mul_comm]; exact Nat.div_add_mod i sz
      obtain ⟨_, hlen, hat⟩ := World.cells?_some (hF (i / sz) hq)
      have h1 := hat (i % sz) hr
      rw [add_at, add_at, Nat.add_assoc, he] at h1
      rw [h1]
      have h2 := flat_get f sz hf ((List.range len).map F) (i / sz) (i % sz) (F (i / sz)) (by simp [hq]) hr
      rw [he] at h2
      exact h2.symm

end Go.Proofs.Ythllpgjggmdmmaa
