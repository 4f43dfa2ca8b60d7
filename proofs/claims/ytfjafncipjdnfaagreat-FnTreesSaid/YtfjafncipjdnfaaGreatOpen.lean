import Derived.Test.YtfjafncipjdnfaaGreatRowInt
namespace Go.Proofs.YtfjafncipjdnfaaGreat
open Go.ChangeShapes Go.WideShapes Go.ChangeAt Go.RowKit
set_option linter.unusedVariables false
set_option linter.unusedSimpArgs false
def S2 (w : World) (b1 o1 : Nat) (n1 : ND) (b2 o2 : Nat) (n2 : ND) (w' : World) : Prop := b1 < w.heap.size ∧ b2 < w.heap.size ∧ Below w.heap.size w w' ∧ At8 w' b1 o1 n1 ∧ At8 w' b2 o2 n2
theorem S2.drew {w : World} {b1 o1 : Nat} {n1 : ND} {b2 o2 : Nat} {n2 : ND} {w' : World} (h : S2 w b1 o1 n1 b2 o2 n2 w') : S2 w b1 o1 n1 b2 o2 n2 w'.drew := ⟨h.1, h.2.1, h.2.2.1.drew, h.2.2.2⟩
theorem S2.out {w : World} {b1 o1 : Nat} {n1 : ND} {b2 o2 : Nat} {n2 : ND} {w' : World} (h : S2 w b1 o1 n1 b2 o2 n2 w') : Below w.heap.size w w' ∧ w'.cell? ⟨b1, o1, none⟩ = some (.int .i64 n1.k) ∧ w'.cell? ⟨b1, o1 + 1, none⟩ = some (.int .i64 n1.v) ∧ w'.cell? ⟨b1, o1 + 2, none⟩ = some (.int .i64 n1.l) ∧ w'.cell? ⟨b1, o1 + 3, none⟩ = some (.int .i64 n1.r) ∧ w'.cell? ⟨b1, o1 + 4, none⟩ = some (.int .i64 n1.o) ∧ w'.cell? ⟨b1, o1 + 5, none⟩ = some (.bool n1.g) ∧ w'.cell? ⟨b1, o1 + 6, none⟩ = some (.int .i64 n1.lt) ∧ w'.cell? ⟨b1, o1 + 7, none⟩ = some (.int .i64 n1.rt) ∧ w'.cell? ⟨b2, o2, none⟩ = some (.int .i64 n2.k) ∧ w'.cell? ⟨b2, o2 + 1, none⟩ = some (.int .i64 n2.v) ∧ w'.cell? ⟨b2, o2 + 2, none⟩ = some (.int .i64 n2.l) ∧ w'.cell? ⟨b2, o2 + 3, none⟩ = some (.int .i64 n2.r) ∧ w'.cell? ⟨b2, o2 + 4, none⟩ = some (.int .i64 n2.o) ∧ w'.cell? ⟨b2, o2 + 5, none⟩ = some (.bool n2.g) ∧ w'.cell? ⟨b2, o2 + 6, none⟩ = some (.int .i64 n2.lt) ∧ w'.cell? ⟨b2, o2 + 7, none⟩ = some (.int .i64 n2.rt) := by
  obtain ⟨_, _, hb, h1, h2⟩ := h
  simp only [At8] at h1 h2
  simp only [h1, h2, hb, and_self]
theorem S2.below {w : World} {b1 o1 : Nat} {n1 : ND} {b2 o2 : Nat} {n2 : ND} {w' w1 : World} (h : S2 w b1 o1 n1 b2 o2 n2 w') (hb : Below w'.heap.size w' w1) : S2 w b1 o1 n1 b2 o2 n2 w1 := by
  obtain ⟨g1, g2, hw, h1, h2⟩ := h
  have hz := hw.size
  exact ⟨g1, g2, hw.trans (hb.mono hz), h1.below hb (by omega), h2.below hb (by omega)⟩
open Go.Deep
instance : Inhabited ND := ⟨⟨0, 0, 0, 0, 0, false, 0, 0⟩⟩
theorem JL (b off : Nat) (i : Nat) : (⟨b, off, none⟩ : Addr).add i = ⟨b, off + i, none⟩ := by
  unfold Addr.add
  split <;> simp_all
theorem vM {H : Type} {enc : TypeId × Value → H} {P : Program} {w : World} {base : Nat} {spare : Nat → Bool} {held : Bool} {t e : TypeId} {α : Type} [Inhabited α] (f : α → List Value) (sz : Nat) (hf : ∀ a, (f a).length = sz) (hsz : 0 < sz)
    (ht : P.underlying t = some (.slice e)) (hC : P.cellsOf e = sz) (hel : ∀ n cs x, DataW.trod enc P w base spare held n e cs = some x → ∃ a, cs = f a)
    {a : Option Addr} {len cap : Nat} {d : DataW H} {p : List MemPlace} (h : DataW.Trod enc P w base spare held t (.slice a len cap) d p) :
    ∃ l : List α, l.length = len ∧ Sl w (.slice a len cap) sz len (l.flatMap f) := by
  obtain ⟨fuel, hfu⟩ := h
  rcases open_slice ht hfu with ⟨hcs, _⟩ | ⟨a', len', cap', m, n, D, Pl, hcs, hb, hl, hm, hmm, hx, hi⟩
  · simp [Value.cells] at hcs
    obtain ⟨rfl, rfl, rfl⟩ := hcs
    exact ⟨[], rfl, none, 0, rfl, Nat.le_refl _, Nat.zero_le _, by simp, .inl rfl⟩
  · simp [Value.cells] at hcs
    obtain ⟨rfl, rfl, rfl⟩ := hcs
    have hlm : len ≤ m := by rw [hmm]; split <;> omega
    have key : ∀ i, i < len → ∃ x : α, w.cells? base (a'.add (i * sz)) sz = some (f x) := fun i hil => by
      obtain ⟨cs', h1, h2⟩ := hi i (by omega)
      obtain ⟨x, rfl⟩ := hel _ _ _ h2
      rw [hC] at h1
      exact ⟨x, h1⟩
    obtain ⟨F, hF⟩ := choose_lt key
    have hll : ((List.range len).map F).length = len := by simp
    refine ⟨(List.range len).map F, hll, some a', cap, rfl, hl, hm, by rw [FF f sz hf, hll], ?_⟩
    by_cases h0 : len = 0
    · exact .inl h0
    · right
      obtain ⟨b, off, spot⟩ := a'
      have hs : spot = none := by
        obtain ⟨_, hlen, hat⟩ := World.cells?_some (hF 0 (by omega))
        have h1 := hat 0 hsz
        have h2 : (f (F 0))[0]? = some ((f (F 0))[0]'(by rw [hf]; exact hsz)) := List.getElem?_eq_getElem _
        rw [h2] at h1
        cases spot with
        | none => rfl
        | some s =>
          exfalso
          revert h1
          unfold World.cell?
          simp only [Addr.add]
          split <;> simp_all
      subst hs
      refine ⟨b, off, rfl, fun i hi2 => ?_⟩
      have hi3 : i < len * sz := by rwa [FF f sz hf, hll] at hi2
      have hq : i / sz < len := Nat.div_lt_of_lt_mul (by rwa [Nat.mul_comm])
      have hr : i % sz < sz := Nat.mod_lt _ hsz
      have he : i / sz * sz + i % sz = i := by rw [Nat.mul_comm]; exact Nat.div_add_mod i sz
      obtain ⟨_, hlen, hat⟩ := World.cells?_some (hF (i / sz) hq)
      have h1 := hat (i % sz) hr
      rw [JL, JL, Nat.add_assoc, he] at h1
      rw [h1]
      have h2 := yG f sz hf ((List.range len).map F) (i / sz) (i % sz) (F (i / sz)) (by simp [hq]) hr
      rw [he] at h2
      exact h2.symm
end Go.Proofs.YtfjafncipjdnfaaGreat
