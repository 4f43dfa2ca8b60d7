/- slices.Sort at []int64: the library's own contract, laid at this translation; and what it leaves of a row that the call owns. -/
import Derived.Shelf.SlGeneric
import Derived.Shelf.SortG.Plain
import Derived.Shelf.SortG.SortNone
import Derived.Sort.OwnSortedInts
import Derived.Test.YtbfndoajchibbaaGreatRowInt
namespace Go.Proofs.YtbfndoajchibbaaGreat
open Go.Shelf

def sortRen : Go.Shelf.Ren := ⟨fun | 53 => 29 | 64 => 40 | 63 => 39 | 78 => 61 | 79 => 62 | 70 => 52 | 71 => 53 | 72 => 54 | 73 => 55 | 74 => 56 | 75 => 57 | 59 => 58 | 76 => 59 | 77 => 60 | 88 => 72 | 89 => 73 | 90 => 74 | 91 => 75 | 92 => 76 | 68 => 77 | 96 => 85 | n => n, fun | 22 => 33 | 23 => 2 | 3 => 3 | 51 => 66 | 0 => 0 | 67 => 91 | 69 => 93 | 4 => 4 | 61 => 83 | 60 => 82 | 44 => 88 | 5 => 5 | 9 => 9 | 75 => 103 | 79 => 107 | 83 => 119 | 84 => 120 | n => n, fun | n => n⟩
theorem sortLays : Go.Proofs.SlLaysN.n53 Tryz.prog sortRen := {
  mixed := by kernel_rfl
  f53 := ⟨Tryz.f29.name, by decide, Tryz.func29.trans (congrArg some (by kernel_rfl))⟩
  f59 := ⟨Tryz.f58.name, by decide, Tryz.func58.trans (congrArg some (by kernel_rfl))⟩
  f63 := ⟨Tryz.f39.name, by decide, Tryz.func39.trans (congrArg some (by kernel_rfl))⟩
  f64 := Tryz.func40.trans (congrArg some (by kernel_rfl))
  f68 := ⟨Tryz.f77.name, by decide, Tryz.func77.trans (congrArg some (by kernel_rfl))⟩
  f70 := ⟨Tryz.f52.name, by decide, Tryz.func52.trans (congrArg some (by kernel_rfl))⟩
  f71 := ⟨Tryz.f53.name, by decide, Tryz.func53.trans (congrArg some (by kernel_rfl))⟩
  f72 := ⟨Tryz.f54.name, by decide, Tryz.func54.trans (congrArg some (by kernel_rfl))⟩
  f73 := ⟨Tryz.f55.name, by decide, Tryz.func55.trans (congrArg some (by kernel_rfl))⟩
  f74 := ⟨Tryz.f56.name, by decide, Tryz.func56.trans (congrArg some (by kernel_rfl))⟩
  f75 := ⟨Tryz.f57.name, by decide, Tryz.func57.trans (congrArg some (by kernel_rfl))⟩
  f76 := ⟨Tryz.f59.name, by decide, Tryz.func59.trans (congrArg some (by kernel_rfl))⟩
  f77 := ⟨Tryz.f60.name, by decide, Tryz.func60.trans (congrArg some (by kernel_rfl))⟩
  f78 := Tryz.func61.trans (congrArg some (by kernel_rfl))
  f79 := Tryz.func62.trans (congrArg some (by kernel_rfl))
  f88 := ⟨Tryz.f72.name, by decide, Tryz.func72.trans (congrArg some (by kernel_rfl))⟩
  f89 := Tryz.func73.trans (congrArg some (by kernel_rfl))
  f90 := Tryz.func74.trans (congrArg some (by kernel_rfl))
  f91 := ⟨Tryz.f75.name, by decide, Tryz.func75.trans (congrArg some (by kernel_rfl))⟩
  f92 := ⟨Tryz.f76.name, by decide, Tryz.func76.trans (congrArg some (by kernel_rfl))⟩
  f96 := ⟨Tryz.f85.name, by decide, Tryz.func85.trans (congrArg some (by kernel_rfl))⟩
  t0 := Tryz.underlying0
  a0 := Tryz.isAgg0
  z0 := Tryz.sizeOf0
  v0 := Tryz.zeroValue0
  t3 := Tryz.underlying3
  a3 := Tryz.isAgg3
  z3 := Tryz.sizeOf3
  v3 := Tryz.zeroValue3
  t4 := Tryz.underlying4
  a4 := Tryz.isAgg4
  z4 := Tryz.sizeOf4
  v4 := Tryz.zeroValue4
  t5 := Tryz.underlying5
  a5 := Tryz.isAgg5
  z5 := Tryz.sizeOf5
  v5 := Tryz.zeroValue5
  t9 := Tryz.underlying9
  a9 := Tryz.isAgg9
  z9 := Tryz.sizeOf9
  v9 := Tryz.zeroValue9
  t22 := Tryz.underlying33
  a22 := Tryz.isAgg33
  z22 := Tryz.sizeOf33
  v22 := Tryz.zeroValue33
  t23 := Tryz.underlying2
  a23 := Tryz.isAgg2
  z23 := Tryz.sizeOf2
  v23 := Tryz.zeroValue2
  t44 := Tryz.underlying88
  a44 := Tryz.isAgg88
  z44 := Tryz.sizeOf88
  v44 := Tryz.zeroValue88
  t51 := Tryz.underlying66
  a51 := Tryz.isAgg66
  z51 := Tryz.sizeOf66
  v51 := Tryz.zeroValue66
  t60 := Tryz.underlying82
  a60 := Tryz.isAgg82
  z60 := Tryz.sizeOf82
  v60 := Tryz.zeroValue82
  t61 := Tryz.underlying83
  a61 := Tryz.isAgg83
  z61 := Tryz.sizeOf83
  v61 := Tryz.zeroValue83
  t67 := Tryz.underlying91
  a67 := Tryz.isAgg91
  z67 := Tryz.sizeOf91
  v67 := Tryz.zeroValue91
  t69 := Tryz.underlying93
  a69 := Tryz.isAgg93
  z69 := Tryz.sizeOf93
  v69 := Tryz.zeroValue93
  t75 := Tryz.underlying103
  a75 := Tryz.isAgg103
  z75 := Tryz.sizeOf103
  v75 := Tryz.zeroValue103
  t79 := Tryz.underlying107
  a79 := Tryz.isAgg107
  z79 := Tryz.sizeOf107
  v79 := Tryz.zeroValue107
  t83 := Tryz.underlying119
  a83 := Tryz.isAgg119
  z83 := Tryz.sizeOf119
  v83 := Tryz.zeroValue119
  t84 := Tryz.underlying120
  a84 := Tryz.isAgg120
  z84 := Tryz.sizeOf120
  v84 := Tryz.zeroValue120 }

theorem sort_row (oa : Option Addr) (oc B : Nat) (ss : List Int) (w : World) (h : w.ownsRow B 2 1 (.slice oa ss.length oc) ss.length (cellsI ss)) (hl : ss.length ≤ 1048576) :
    Calls Tryz.prog 29 #[.slice oa ss.length oc] w fun e w' => e = .returned (.tuple #[]) ∧ w'.ownsRow B 2 1 (.slice oa ss.length oc) ss.length (cellsI (ss.mergeSort fun x y => decide (x ≤ y))) ∧ w.grownBy w' (Value.slice oa ss.length oc).ownBlock := by
  rcases Nat.eq_zero_or_pos ss.length with h0 | h0
  · obtain rfl : ss = [] := List.length_eq_zero_iff.1 h0
    refine (AnyG.slices_Sort_int_none (ρ := sortRen) sortLays oa oc w).mono ?_
    rintro e w' ⟨rfl, rfl⟩
    exact ⟨rfl, by simpa using h, rfl, rfl, rfl, Nat.le_refl _, fun _ _ _ => rfl⟩
  · rcases h.2 with ⟨-, hn⟩ | ⟨g, cap, cur, hv, hbase, hb, h1, h2, h3, h4⟩
    · omega
    · cases hv
      have hH : Go.Sort.Holds (Value.int .i64) w g 0 ss.toArray := holds_of_blockI hb (by simpa [cellsI] using h4)
      refine (AnyG.slices_Sort_int (ρ := sortRen) sortLays g 0 oc ss w hH (Array.getElem?_eq_some_iff.1 hb).1 (by omega)).mono ?_
      rintro e w' ⟨rfl, n, os, rfl⟩
      exact ⟨rfl, ownsRow_sortedI (by simp) hbase hb h1 h2 h3, grownBy_sortedI _⟩
end Go.Proofs.YtbfndoajchibbaaGreat
