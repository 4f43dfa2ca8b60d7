/- Sizes and zero values of the types that walks go through. -/
import Derived.Test.YtnojlncnepfaaaaMem
namespace Go.Proofs.Ytnojlncnepfaaaa
open Go.ChangeShapes Go.WideShapes Go.ChangeAt Go.RowKit
set_option linter.unusedVariables false
set_option linter.unusedSimpArgs false

theorem I_impl_Hand : (Try.prog.info? 29).map (fun i => i.size) = some 17 := by kernel_rfl
theorem Z_impl_Hand (w : World) : (Instr.alloc 29 true (.tuple #[])).run Try.prog w = .ok (.pointer (some ⟨w.heap.size, 0, none⟩)) (w.alloc (.cells ([.int .i64 0, .int .i64 0, .int .i64 0, .int .i64 0, .int .i64 0, .int .i64 0, .int .i64 0, .int .i64 0, .int .i64 0, .int .i64 0, .int .i64 0, .int .i64 0, .int .i64 0, .bool false, .int .i64 0, .int .i64 0, .int .i64 0] : List Value).toArray 29)) := by kernel_rfl
theorem I_impl_Call : (Try.prog.info? 27).map (fun i => i.size) = some 3 := by kernel_rfl
theorem Z_impl_Call (w : World) : (Instr.alloc 27 true (.tuple #[])).run Try.prog w = .ok (.pointer (some ⟨w.heap.size, 0, none⟩)) (w.alloc (.cells ([.int .i64 0, .int .i64 0, .int .i64 0] : List Value).toArray 27)) := by kernel_rfl
theorem I_int64 : (Try.prog.info? 2).map (fun i => i.size) = some 1 := by kernel_rfl
theorem I_bool : (Try.prog.info? 4).map (fun i => i.size) = some 1 := by kernel_rfl
theorem I_S_int64 : (Try.prog.info? 41).map (fun i => i.size) = some 1 := by kernel_rfl
end Go.Proofs.Ytnojlncnepfaaaa
