/- Sizes and zero values of the types that walks go through. -/
import Derived.Test.YtoamnecoiicljaaMem
namespace Go.Proofs.Ytoamnecoiicljaa
open Go.ChangeShapes Go.WideShapes Go.ChangeAt Go.RowKit
set_option linter.unusedVariables false
set_option linter.unusedSimpArgs false

theorem I_impl_Shared : (Try.prog.info? 30).map (fun i => i.size) = some 2 := by kernel_rfl
theorem Z_impl_Shared (w : World) : (Instr.alloc 30 true (.tuple #[])).run Try.prog w = .ok (.pointer (some ⟨w.heap.size, 0, none⟩)) (w.alloc (.cells ([.slice none 0 0, .slice none 0 0] : List Value).toArray 30)) := by kernel_rfl
theorem I_impl_Hand : (Try.prog.info? 40).map (fun i => i.size) = some 17 := by kernel_rfl
theorem Z_impl_Hand (w : World) : (Instr.alloc 40 true (.tuple #[])).run Try.prog w = .ok (.pointer (some ⟨w.heap.size, 0, none⟩)) (w.alloc (.cells ([.int .i64 0, .int .i64 0, .int .i64 0, .int .i64 0, .int .i64 0, .int .i64 0, .int .i64 0, .int .i64 0, .int .i64 0, .int .i64 0, .int .i64 0, .int .i64 0, .int .i64 0, .bool false, .int .i64 0, .int .i64 0, .int .i64 0] : List Value).toArray 40)) := by kernel_rfl
theorem I_impl_Call : (Try.prog.info? 38).map (fun i => i.size) = some 3 := by kernel_rfl
theorem Z_impl_Call (w : World) : (Instr.alloc 38 true (.tuple #[])).run Try.prog w = .ok (.pointer (some ⟨w.heap.size, 0, none⟩)) (w.alloc (.cells ([.int .i64 0, .int .i64 0, .int .i64 0] : List Value).toArray 38)) := by kernel_rfl
theorem I_impl_Node : (Try.prog.info? 60).map (fun i => i.size) = some 8 := by kernel_rfl
theorem Z_impl_Node (w : World) : (Instr.alloc 60 true (.tuple #[])).run Try.prog w = .ok (.pointer (some ⟨w.heap.size, 0, none⟩)) (w.alloc (.cells ([.int .i64 0, .int .i64 0, .int .i64 0, .int .i64 0, .int .i64 0, .bool false, .int .i64 0, .int .i64 0] : List Value).toArray 60)) := by kernel_rfl
theorem I_int64 : (Try.prog.info? 2).map (fun i => i.size) = some 1 := by kernel_rfl
theorem I_bool : (Try.prog.info? 4).map (fun i => i.size) = some 1 := by kernel_rfl
theorem I_S_impl_Node : (Try.prog.info? 28).map (fun i => i.size) = some 1 := by kernel_rfl
theorem I_S_int64 : (Try.prog.info? 23).map (fun i => i.size) = some 1 := by kernel_rfl
end Go.Proofs.Ytoamnecoiicljaa
