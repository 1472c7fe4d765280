/- What a type assertion on an item gives: closed facts. -/
import Derived.Test.YtifioikdhfhljaaGreatDoorBase
namespace Go.Proofs.YtifioikdhfhljaaGreatDoor
open Go.RowKit

theorem as_null_null (v : Value) (w : World) : (Instr.typeAssert (.iface 215 v) 172 215 true).run Tryz.prog w = .ok (.tuple #[v, .bool true]) w := by kernel_rfl
theorem as_null_truth (v : Value) (w : World) : (Instr.typeAssert (.iface 215 v) 172 216 true).run Tryz.prog w = .ok (.tuple #[.bool false, .bool false]) w := by kernel_rfl
theorem as_null_whole (v : Value) (w : World) : (Instr.typeAssert (.iface 215 v) 172 217 true).run Tryz.prog w = .ok (.tuple #[.int .i64 0, .bool false]) w := by kernel_rfl
theorem as_null_cpx (v : Value) (w : World) : (Instr.typeAssert (.iface 215 v) 172 219 true).run Tryz.prog w = .ok (.tuple #[.complex .f64 0 0, .bool false]) w := by kernel_rfl
theorem as_null_str (v : Value) (w : World) : (Instr.typeAssert (.iface 215 v) 172 221 true).run Tryz.prog w = .ok (.tuple #[.string E0, .bool false]) w := by kernel_rfl
theorem as_null_node (v : Value) (w : World) : (Instr.typeAssert (.iface 215 v) 172 222 true).run Tryz.prog w = .ok (.tuple #[.int .i64 0, .bool false]) w := by kernel_rfl
theorem as_null_edge (v : Value) (w : World) : (Instr.typeAssert (.iface 215 v) 172 223 true).run Tryz.prog w = .ok (.tuple #[.int .i64 0, .bool false]) w := by kernel_rfl
theorem as_truth_null (v : Value) (w : World) : (Instr.typeAssert (.iface 216 v) 172 215 true).run Tryz.prog w = .ok (.tuple #[.agg #[], .bool false]) w := by kernel_rfl
theorem as_truth_truth (v : Value) (w : World) : (Instr.typeAssert (.iface 216 v) 172 216 true).run Tryz.prog w = .ok (.tuple #[v, .bool true]) w := by kernel_rfl
theorem as_truth_whole (v : Value) (w : World) : (Instr.typeAssert (.iface 216 v) 172 217 true).run Tryz.prog w = .ok (.tuple #[.int .i64 0, .bool false]) w := by kernel_rfl
theorem as_truth_cpx (v : Value) (w : World) : (Instr.typeAssert (.iface 216 v) 172 219 true).run Tryz.prog w = .ok (.tuple #[.complex .f64 0 0, .bool false]) w := by kernel_rfl
theorem as_truth_str (v : Value) (w : World) : (Instr.typeAssert (.iface 216 v) 172 221 true).run Tryz.prog w = .ok (.tuple #[.string E0, .bool false]) w := by kernel_rfl
theorem as_truth_node (v : Value) (w : World) : (Instr.typeAssert (.iface 216 v) 172 222 true).run Tryz.prog w = .ok (.tuple #[.int .i64 0, .bool false]) w := by kernel_rfl
theorem as_truth_edge (v : Value) (w : World) : (Instr.typeAssert (.iface 216 v) 172 223 true).run Tryz.prog w = .ok (.tuple #[.int .i64 0, .bool false]) w := by kernel_rfl
theorem as_whole_null (v : Value) (w : World) : (Instr.typeAssert (.iface 217 v) 172 215 true).run Tryz.prog w = .ok (.tuple #[.agg #[], .bool false]) w := by kernel_rfl
theorem as_whole_truth (v : Value) (w : World) : (Instr.typeAssert (.iface 217 v) 172 216 true).run Tryz.prog w = .ok (.tuple #[.bool false, .bool false]) w := by kernel_rfl
theorem as_whole_whole (v : Value) (w : World) : (Instr.typeAssert (.iface 217 v) 172 217 true).run Tryz.prog w = .ok (.tuple #[v, .bool true]) w := by kernel_rfl
theorem as_whole_cpx (v : Value) (w : World) : (Instr.typeAssert (.iface 217 v) 172 219 true).run Tryz.prog w = .ok (.tuple #[.complex .f64 0 0, .bool false]) w := by kernel_rfl
theorem as_whole_str (v : Value) (w : World) : (Instr.typeAssert (.iface 217 v) 172 221 true).run Tryz.prog w = .ok (.tuple #[.string E0, .bool false]) w := by kernel_rfl
theorem as_whole_node (v : Value) (w : World) : (Instr.typeAssert (.iface 217 v) 172 222 true).run Tryz.prog w = .ok (.tuple #[.int .i64 0, .bool false]) w := by kernel_rfl
theorem as_whole_edge (v : Value) (w : World) : (Instr.typeAssert (.iface 217 v) 172 223 true).run Tryz.prog w = .ok (.tuple #[.int .i64 0, .bool false]) w := by kernel_rfl
theorem as_cpx_null (v : Value) (w : World) : (Instr.typeAssert (.iface 219 v) 172 215 true).run Tryz.prog w = .ok (.tuple #[.agg #[], .bool false]) w := by kernel_rfl
theorem as_cpx_truth (v : Value) (w : World) : (Instr.typeAssert (.iface 219 v) 172 216 true).run Tryz.prog w = .ok (.tuple #[.bool false, .bool false]) w := by kernel_rfl
theorem as_cpx_whole (v : Value) (w : World) : (Instr.typeAssert (.iface 219 v) 172 217 true).run Tryz.prog w = .ok (.tuple #[.int .i64 0, .bool false]) w := by kernel_rfl
theorem as_cpx_cpx (v : Value) (w : World) : (Instr.typeAssert (.iface 219 v) 172 219 true).run Tryz.prog w = .ok (.tuple #[v, .bool true]) w := by kernel_rfl
theorem as_cpx_str (v : Value) (w : World) : (Instr.typeAssert (.iface 219 v) 172 221 true).run Tryz.prog w = .ok (.tuple #[.string E0, .bool false]) w := by kernel_rfl
theorem as_cpx_node (v : Value) (w : World) : (Instr.typeAssert (.iface 219 v) 172 222 true).run Tryz.prog w = .ok (.tuple #[.int .i64 0, .bool false]) w := by kernel_rfl
theorem as_cpx_edge (v : Value) (w : World) : (Instr.typeAssert (.iface 219 v) 172 223 true).run Tryz.prog w = .ok (.tuple #[.int .i64 0, .bool false]) w := by kernel_rfl
theorem as_str_null (v : Value) (w : World) : (Instr.typeAssert (.iface 221 v) 172 215 true).run Tryz.prog w = .ok (.tuple #[.agg #[], .bool false]) w := by kernel_rfl
theorem as_str_truth (v : Value) (w : World) : (Instr.typeAssert (.iface 221 v) 172 216 true).run Tryz.prog w = .ok (.tuple #[.bool false, .bool false]) w := by kernel_rfl
theorem as_str_whole (v : Value) (w : World) : (Instr.typeAssert (.iface 221 v) 172 217 true).run Tryz.prog w = .ok (.tuple #[.int .i64 0, .bool false]) w := by kernel_rfl
theorem as_str_cpx (v : Value) (w : World) : (Instr.typeAssert (.iface 221 v) 172 219 true).run Tryz.prog w = .ok (.tuple #[.complex .f64 0 0, .bool false]) w := by kernel_rfl
theorem as_str_str (v : Value) (w : World) : (Instr.typeAssert (.iface 221 v) 172 221 true).run Tryz.prog w = .ok (.tuple #[v, .bool true]) w := by kernel_rfl
theorem as_str_node (v : Value) (w : World) : (Instr.typeAssert (.iface 221 v) 172 222 true).run Tryz.prog w = .ok (.tuple #[.int .i64 0, .bool false]) w := by kernel_rfl
theorem as_str_edge (v : Value) (w : World) : (Instr.typeAssert (.iface 221 v) 172 223 true).run Tryz.prog w = .ok (.tuple #[.int .i64 0, .bool false]) w := by kernel_rfl
theorem as_node_null (v : Value) (w : World) : (Instr.typeAssert (.iface 222 v) 172 215 true).run Tryz.prog w = .ok (.tuple #[.agg #[], .bool false]) w := by kernel_rfl
theorem as_node_truth (v : Value) (w : World) : (Instr.typeAssert (.iface 222 v) 172 216 true).run Tryz.prog w = .ok (.tuple #[.bool false, .bool false]) w := by kernel_rfl
theorem as_node_whole (v : Value) (w : World) : (Instr.typeAssert (.iface 222 v) 172 217 true).run Tryz.prog w = .ok (.tuple #[.int .i64 0, .bool false]) w := by kernel_rfl
theorem as_node_cpx (v : Value) (w : World) : (Instr.typeAssert (.iface 222 v) 172 219 true).run Tryz.prog w = .ok (.tuple #[.complex .f64 0 0, .bool false]) w := by kernel_rfl
theorem as_node_str (v : Value) (w : World) : (Instr.typeAssert (.iface 222 v) 172 221 true).run Tryz.prog w = .ok (.tuple #[.string E0, .bool false]) w := by kernel_rfl
theorem as_node_node (v : Value) (w : World) : (Instr.typeAssert (.iface 222 v) 172 222 true).run Tryz.prog w = .ok (.tuple #[v, .bool true]) w := by kernel_rfl
theorem as_node_edge (v : Value) (w : World) : (Instr.typeAssert (.iface 222 v) 172 223 true).run Tryz.prog w = .ok (.tuple #[.int .i64 0, .bool false]) w := by kernel_rfl
theorem as_edge_null (v : Value) (w : World) : (Instr.typeAssert (.iface 223 v) 172 215 true).run Tryz.prog w = .ok (.tuple #[.agg #[], .bool false]) w := by kernel_rfl
theorem as_edge_truth (v : Value) (w : World) : (Instr.typeAssert (.iface 223 v) 172 216 true).run Tryz.prog w = .ok (.tuple #[.bool false, .bool false]) w := by kernel_rfl
theorem as_edge_whole (v : Value) (w : World) : (Instr.typeAssert (.iface 223 v) 172 217 true).run Tryz.prog w = .ok (.tuple #[.int .i64 0, .bool false]) w := by kernel_rfl
theorem as_edge_cpx (v : Value) (w : World) : (Instr.typeAssert (.iface 223 v) 172 219 true).run Tryz.prog w = .ok (.tuple #[.complex .f64 0 0, .bool false]) w := by kernel_rfl
theorem as_edge_str (v : Value) (w : World) : (Instr.typeAssert (.iface 223 v) 172 221 true).run Tryz.prog w = .ok (.tuple #[.string E0, .bool false]) w := by kernel_rfl
theorem as_edge_node (v : Value) (w : World) : (Instr.typeAssert (.iface 223 v) 172 222 true).run Tryz.prog w = .ok (.tuple #[.int .i64 0, .bool false]) w := by kernel_rfl
theorem as_edge_edge (v : Value) (w : World) : (Instr.typeAssert (.iface 223 v) 172 223 true).run Tryz.prog w = .ok (.tuple #[v, .bool true]) w := by kernel_rfl
end Go.Proofs.YtifioikdhfhljaaGreatDoor
