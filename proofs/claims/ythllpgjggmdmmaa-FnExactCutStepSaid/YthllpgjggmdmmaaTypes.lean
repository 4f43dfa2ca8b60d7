/- Sizes and zero values of the types that walks go through. -/
import Derived.Test.YthllpgjggmdmmaaMem
namespace Go.Proofs.Ythllpgjggmdmmaa
open Go.ChangeShapes Go.WideShapes Go.ChangeAt Go.RowKit
set_option linter.unusedVariables false
set_option linter.unusedSimpArgs false

theorem I_impl_Shared : (Try.prog.info? 33).map (fun i => i.size) = some 2 := by kernel_rfl
theorem Z_impl_Shared (w : World) : (Instr.alloc 33 true (.tuple #[])).run Try.prog w = .ok (.pointer (some ⟨w.heap.size, 0, none⟩)) (w.alloc (.cells ([.slice none 0 0, .slice none 0 0] : List Value).toArray 33)) := by kernel_rfl
theorem I_impl_Hand : (Try.prog.info? 36).map (fun i => i.size) = some 17 := by kernel_rfl
theorem Z_impl_Hand (w : World) : (Instr.alloc 36 true (.tuple #[])).run Try.prog w = .ok (.pointer (some ⟨w.heap.size, 0, none⟩)) (w.alloc (.cells ([.int .i64 0, .int .i64 0, .int .i64 0, .int .i64 0, .int .i64 0, .int .i64 0, .int .i64 0, .int .i64 0, .int .i64 0, .int .i64 0, .int .i64 0, .int .i64 0, .int .i64 0, .bool false, .int .i64 0, .int .i64 0, .int .i64 0] : List Value).toArray 36)) := by kernel_rfl
theorem I_impl_Call : (Try.prog.info? 34).map (fun i => i.size) = some 3 := by kernel_rfl
theorem I_impl_Node : (Try.prog.info? 52).map (fun i => i.size) = some 8 := by kernel_rfl
theorem Z_impl_Node (w : World) : (Instr.alloc 52 true (.tuple #[])).run Try.prog w = .ok (.pointer (some ⟨w.heap.size, 0, none⟩)) (w.alloc (.cells ([.int .i64 0, .int .i64 0, .int .i64 0, .int .i64 0, .int .i64 0, .bool false, .int .i64 0, .int .i64 0] : List Value).toArray 52)) := by kernel_rfl
theorem I_int64 : (Try.prog.info? 2).map (fun i => i.size) = some 1 := by kernel_rfl
theorem I_bool : (Try.prog.info? 4).map (fun i => i.size) = some 1 := by kernel_rfl
theorem I_S_impl_Node : (Try.prog.info? 31).map (fun i => i.size) = some 1 := by kernel_rfl
theorem I_S_int64 : (Try.prog.info? 23).map (fun i => i.size) = some 1 := by kernel_rfl
end Go.Proofs.Ythllpgjggmdmmaa
