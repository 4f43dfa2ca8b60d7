/- Finding: what each touch of the program does. -/
import Derived.Test.YthllpgjggmdmmaaFindImpl
import Derived.Test.YthllpgjggmdmmaaTable
import Derived.Test.YthllpgjggmdmmaaMem6
namespace Go.Proofs.Ythllpgjggmdmmaa
open Go.ChangeShapes Go.WideShapes Go.ChangeAt Go.RowKit
set_option linter.unusedVariables false
set_option linter.unusedSimpArgs false

theorem ret_sh {fn : Func} {p q : Tmp} {t1 t2 : TypeId} (h : fn.results = #[.cell p t1, .cell q t2]) {tmps : Array Value} {w0 w : World} {L : List Bk} (hM : Mem w0 w L) (i j : Nat) {g g' : Nat} {t t' : TypeId} {cs cs' : List Value} (hi : L[i]? = some (g, t, cs)) (hj : L[j]? = some (g', t', cs'))
    (hp : tmps.getD p undef = .pointer (some ⟨g, 0, none⟩)) (hq : tmps.getD q undef = .pointer (some ⟨g', 0, none⟩)) {fs fs' : Array Field} (hu : Try.prog.underlying t1 = some (.struct fs)) (hu' : Try.prog.underlying t2 = some (.struct fs')) (hn : (Try.prog.info? t1).map (·.size) = some cs.length) (hn' : (Try.prog.info? t2).map (·.size) = some cs'.length) :
    (results fn tmps).run Try.prog w = .ok (.tuple #[.agg cs.toArray, .agg cs'.toArray]) w := by
  have e1 := run_loadVar_row (P := Try.prog) w g t t1 cs.toArray (0, 0) _ (hM.blk i hi) hu rfl (by simpa using hn)
  have e2 := run_loadVar_row (P := Try.prog) w g' t' t2 cs'.toArray (0, 0) _ (hM.blk j hj) hu' rfl (by simpa using hn')
  have hp' : tmps[p]?.getD undef = .pointer (some ⟨g, 0, none⟩) := by simpa using hp
  have hq' : tmps[q]?.getD undef = .pointer (some ⟨g', 0, none⟩) := by simpa using hq
  simp [results, h, hp', hq', asAddr, e1, e2, Sem.run_bind, Result.andThen]
theorem mx_lt {x y n : Int} : mx x y < n ↔ x < n ∧ y < n := by unfold mx; split <;> omega
theorem can_l7 (l : List ND) (c : List Int) (task : Int) (h : HD) (a b : Int) : l7okB l c task h a b = (canB l c task h && inB h.at_ a b) := by
  unfold l7okB canB amongB max5
  rw [Bool.eq_iff_iff]
  simp only [Bool.and_eq_true, decide_eq_true_eq, mx_lt, five, List.all_cons, List.all_nil, hasB, inB, handB]
  constructor
  · rintro ⟨⟨⟨⟨h1, h2⟩, h3⟩, h4⟩, h5⟩
    exact ⟨⟨⟨⟨h1, h2⟩, h3⟩, by first | omega | (simp only [Bool.and_eq_true, decide_eq_true_eq] at h5; omega)⟩, h4⟩
  · rintro ⟨⟨⟨⟨h1, h2⟩, h3⟩, h4⟩, h5⟩
    exact ⟨⟨⟨⟨h1, h2⟩, h3⟩, h5⟩, by first | omega | (simp only [true_and, and_true]; omega)⟩
theorem can_ok {l : List ND} {c : List Int} {task : Int} {h : HD} (hk : canB l c task h = true) : l7okB l c task h h.at_ h.at_ = true := by
  rw [can_l7, hk]
  simp [inB]
end Go.Proofs.Ythllpgjggmdmmaa
