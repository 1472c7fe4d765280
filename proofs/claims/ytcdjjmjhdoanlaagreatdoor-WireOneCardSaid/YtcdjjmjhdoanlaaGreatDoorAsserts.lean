/- What a type assertion on an item gives: closed facts. -/
import Derived.Test.YtcdjjmjhdoanlaaGreatDoorBase
namespace Go.Proofs.YtcdjjmjhdoanlaaGreatDoor
open Go.RowKit

theorem as_null_null (v : Value) (w : World) : (Instr.typeAssert (.iface 184 v) 179 184 true).run Tryz.prog w = .ok (.tuple #[v, .bool true]) w := by kernel_rfl
theorem as_null_truth (v : Value) (w : World) : (Instr.typeAssert (.iface 184 v) 179 185 true).run Tryz.prog w = .ok (.tuple #[.bool false, .bool false]) w := by kernel_rfl
theorem as_null_whole (v : Value) (w : World) : (Instr.typeAssert (.iface 184 v) 179 186 true).run Tryz.prog w = .ok (.tuple #[.int .i64 0, .bool false]) w := by kernel_rfl
theorem as_null_cpx (v : Value) (w : World) : (Instr.typeAssert (.iface 184 v) 179 188 true).run Tryz.prog w = .ok (.tuple #[.complex .f64 0 0, .bool false]) w := by kernel_rfl
theorem as_null_str (v : Value) (w : World) : (Instr.typeAssert (.iface 184 v) 179 191 true).run Tryz.prog w = .ok (.tuple #[.string E0, .bool false]) w := by kernel_rfl
theorem as_null_node (v : Value) (w : World) : (Instr.typeAssert (.iface 184 v) 179 192 true).run Tryz.prog w = .ok (.tuple #[.int .i64 0, .bool false]) w := by kernel_rfl
theorem as_null_edge (v : Value) (w : World) : (Instr.typeAssert (.iface 184 v) 179 193 true).run Tryz.prog w = .ok (.tuple #[.int .i64 0, .bool false]) w := by kernel_rfl
theorem as_truth_null (v : Value) (w : World) : (Instr.typeAssert (.iface 185 v) 179 184 true).run Tryz.prog w = .ok (.tuple #[.agg #[], .bool false]) w := by kernel_rfl
theorem as_truth_truth (v : Value) (w : World) : (Instr.typeAssert (.iface 185 v) 179 185 true).run Tryz.prog w = .ok (.tuple #[v, .bool true]) w := by kernel_rfl
theorem as_truth_whole (v : Value) (w : World) : (Instr.typeAssert (.iface 185 v) 179 186 true).run Tryz.prog w = .ok (.tuple #[.int .i64 0, .bool false]) w := by kernel_rfl
theorem as_truth_cpx (v : Value) (w : World) : (Instr.typeAssert (.iface 185 v) 179 188 true).run Tryz.prog w = .ok (.tuple #[.complex .f64 0 0, .bool false]) w := by kernel_rfl
theorem as_truth_str (v : Value) (w : World) : (Instr.typeAssert (.iface 185 v) 179 191 true).run Tryz.prog w = .ok (.tuple #[.string E0, .bool false]) w := by kernel_rfl
theorem as_truth_node (v : Value) (w : World) : (Instr.typeAssert (.iface 185 v) 179 192 true).run Tryz.prog w = .ok (.tuple #[.int .i64 0, .bool false]) w := by kernel_rfl
theorem as_truth_edge (v : Value) (w : World) : (Instr.typeAssert (.iface 185 v) 179 193 true).run Tryz.prog w = .ok (.tuple #[.int .i64 0, .bool false]) w := by kernel_rfl
theorem as_whole_null (v : Value) (w : World) : (Instr.typeAssert (.iface 186 v) 179 184 true).run Tryz.prog w = .ok (.tuple #[.agg #[], .bool false]) w := by kernel_rfl
theorem as_whole_truth (v : Value) (w : World) : (Instr.typeAssert (.iface 186 v) 179 185 true).run Tryz.prog w = .ok (.tuple #[.bool false, .bool false]) w := by kernel_rfl
theorem as_whole_whole (v : Value) (w : World) : (Instr.typeAssert (.iface 186 v) 179 186 true).run Tryz.prog w = .ok (.tuple #[v, .bool true]) w := by kernel_rfl
theorem as_whole_cpx (v : Value) (w : World) : (Instr.typeAssert (.iface 186 v) 179 188 true).run Tryz.prog w = .ok (.tuple #[.complex .f64 0 0, .bool false]) w := by kernel_rfl
theorem as_whole_str (v : Value) (w : World) : (Instr.typeAssert (.iface 186 v) 179 191 true).run Tryz.prog w = .ok (.tuple #[.string E0, .bool false]) w := by kernel_rfl
theorem as_whole_node (v : Value) (w : World) : (Instr.typeAssert (.iface 186 v) 179 192 true).run Tryz.prog w = .ok (.tuple #[.int .i64 0, .bool false]) w := by kernel_rfl
theorem as_whole_edge (v : Value) (w : World) : (Instr.typeAssert (.iface 186 v) 179 193 true).run Tryz.prog w = .ok (.tuple #[.int .i64 0, .bool false]) w := by kernel_rfl
theorem as_cpx_null (v : Value) (w : World) : (Instr.typeAssert (.iface 188 v) 179 184 true).run Tryz.prog w = .ok (.tuple #[.agg #[], .bool false]) w := by kernel_rfl
theorem as_cpx_truth (v : Value) (w : World) : (Instr.typeAssert (.iface 188 v) 179 185 true).run Tryz.prog w = .ok (.tuple #[.bool false, .bool false]) w := by kernel_rfl
theorem as_cpx_whole (v : Value) (w : World) : (Instr.typeAssert (.iface 188 v) 179 186 true).run Tryz.prog w = .ok (.tuple #[.int .i64 0, .bool false]) w := by kernel_rfl
theorem as_cpx_cpx (v : Value) (w : World) : (Instr.typeAssert (.iface 188 v) 179 188 true).run Tryz.prog w = .ok (.tuple #[v, .bool true]) w := by kernel_rfl
theorem as_cpx_str (v : Value) (w : World) : (Instr.typeAssert (.iface 188 v) 179 191 true).run Tryz.prog w = .ok (.tuple #[.string E0, .bool false]) w := by kernel_rfl
theorem as_cpx_node (v : Value) (w : World) : (Instr.typeAssert (.iface 188 v) 179 192 true).run Tryz.prog w = .ok (.tuple #[.int .i64 0, .bool false]) w := by kernel_rfl
theorem as_cpx_edge (v : Value) (w : World) : (Instr.typeAssert (.iface 188 v) 179 193 true).run Tryz.prog w = .ok (.tuple #[.int .i64 0, .bool false]) w := by kernel_rfl
theorem as_str_null (v : Value) (w : World) : (Instr.typeAssert (.iface 191 v) 179 184 true).run Tryz.prog w = .ok (.tuple #[.agg #[], .bool false]) w := by kernel_rfl
theorem as_str_truth (v : Value) (w : World) : (Instr.typeAssert (.iface 191 v) 179 185 true).run Tryz.prog w = .ok (.tuple #[.bool false, .bool false]) w := by kernel_rfl
theorem as_str_whole (v : Value) (w : World) : (Instr.typeAssert (.iface 191 v) 179 186 true).run Tryz.prog w = .ok (.tuple #[.int .i64 0, .bool false]) w := by kernel_rfl
theorem as_str_cpx (v : Value) (w : World) : (Instr.typeAssert (.iface 191 v) 179 188 true).run Tryz.prog w = .ok (.tuple #[.complex .f64 0 0, .bool false]) w := by kernel_rfl
theorem as_str_str (v : Value) (w : World) : (Instr.typeAssert (.iface 191 v) 179 191 true).run Tryz.prog w = .ok (.tuple #[v, .bool true]) w := by kernel_rfl
theorem as_str_node (v : Value) (w : World) : (Instr.typeAssert (.iface 191 v) 179 192 true).run Tryz.prog w = .ok (.tuple #[.int .i64 0, .bool false]) w := by kernel_rfl
theorem as_str_edge (v : Value) (w : World) : (Instr.typeAssert (.iface 191 v) 179 193 true).run Tryz.prog w = .ok (.tuple #[.int .i64 0, .bool false]) w := by kernel_rfl
theorem as_node_null (v : Value) (w : World) : (Instr.typeAssert (.iface 192 v) 179 184 true).run Tryz.prog w = .ok (.tuple #[.agg #[], .bool false]) w := by kernel_rfl
theorem as_node_truth (v : Value) (w : World) : (Instr.typeAssert (.iface 192 v) 179 185 true).run Tryz.prog w = .ok (.tuple #[.bool false, .bool false]) w := by kernel_rfl
theorem as_node_whole (v : Value) (w : World) : (Instr.typeAssert (.iface 192 v) 179 186 true).run Tryz.prog w = .ok (.tuple #[.int .i64 0, .bool false]) w := by kernel_rfl
theorem as_node_cpx (v : Value) (w : World) : (Instr.typeAssert (.iface 192 v) 179 188 true).run Tryz.prog w = .ok (.tuple #[.complex .f64 0 0, .bool false]) w := by kernel_rfl
theorem as_node_str (v : Value) (w : World) : (Instr.typeAssert (.iface 192 v) 179 191 true).run Tryz.prog w = .ok (.tuple #[.string E0, .bool false]) w := by kernel_rfl
theorem as_node_node (v : Value) (w : World) : (Instr.typeAssert (.iface 192 v) 179 192 true).run Tryz.prog w = .ok (.tuple #[v, .bool true]) w := by kernel_rfl
theorem as_node_edge (v : Value) (w : World) : (Instr.typeAssert (.iface 192 v) 179 193 true).run Tryz.prog w = .ok (.tuple #[.int .i64 0, .bool false]) w := by kernel_rfl
theorem as_edge_null (v : Value) (w : World) : (Instr.typeAssert (.iface 193 v) 179 184 true).run Tryz.prog w = .ok (.tuple #[.agg #[], .bool false]) w := by kernel_rfl
theorem as_edge_truth (v : Value) (w : World) : (Instr.typeAssert (.iface 193 v) 179 185 true).run Tryz.prog w = .ok (.tuple #[.bool false, .bool false]) w := by kernel_rfl
theorem as_edge_whole (v : Value) (w : World) : (Instr.typeAssert (.iface 193 v) 179 186 true).run Tryz.prog w = .ok (.tuple #[.int .i64 0, .bool false]) w := by kernel_rfl
theorem as_edge_cpx (v : Value) (w : World) : (Instr.typeAssert (.iface 193 v) 179 188 true).run Tryz.prog w = .ok (.tuple #[.complex .f64 0 0, .bool false]) w := by kernel_rfl
theorem as_edge_str (v : Value) (w : World) : (Instr.typeAssert (.iface 193 v) 179 191 true).run Tryz.prog w = .ok (.tuple #[.string E0, .bool false]) w := by kernel_rfl
theorem as_edge_node (v : Value) (w : World) : (Instr.typeAssert (.iface 193 v) 179 192 true).run Tryz.prog w = .ok (.tuple #[.int .i64 0, .bool false]) w := by kernel_rfl
theorem as_edge_edge (v : Value) (w : World) : (Instr.typeAssert (.iface 193 v) 179 193 true).run Tryz.prog w = .ok (.tuple #[v, .bool true]) w := by kernel_rfl
end Go.Proofs.YtcdjjmjhdoanlaaGreatDoor
