import Derived.Test.YtiidepafifodjabGreatPlain
/-! Type assertions on a thing: closed facts of the program's tables. -/
namespace Go.Proofs.YtiidepafifodjabGreat
open Go.RowKit
theorem ta_nil_absent (w : World) : (Instr.typeAssert .nilIface 79 139 true).run Tryz.prog w = .ok (.tuple #[.agg #[], .bool false]) w := by kernel_rfl
theorem ta_absent_absent (x : Value) (w : World) : (Instr.typeAssert (.iface 139 x) 79 139 true).run Tryz.prog w = .ok (.tuple #[x, .bool true]) w := by kernel_rfl
theorem ta_flag_absent (x : Value) (w : World) : (Instr.typeAssert (.iface 90 x) 79 139 true).run Tryz.prog w = .ok (.tuple #[.agg #[], .bool false]) w := by kernel_rfl
theorem ta_whole_absent (x : Value) (w : World) : (Instr.typeAssert (.iface 140 x) 79 139 true).run Tryz.prog w = .ok (.tuple #[.agg #[], .bool false]) w := by kernel_rfl
theorem ta_float_absent (x : Value) (w : World) : (Instr.typeAssert (.iface 141 x) 79 139 true).run Tryz.prog w = .ok (.tuple #[.agg #[], .bool false]) w := by kernel_rfl
theorem ta_word_absent (x : Value) (w : World) : (Instr.typeAssert (.iface 142 x) 79 139 true).run Tryz.prog w = .ok (.tuple #[.agg #[], .bool false]) w := by kernel_rfl
theorem ta_builtin_absent (x : Value) (w : World) : (Instr.typeAssert (.iface 145 x) 79 139 true).run Tryz.prog w = .ok (.tuple #[.agg #[], .bool false]) w := by kernel_rfl
theorem ta_made_absent (x : Value) (w : World) : (Instr.typeAssert (.iface 144 x) 79 139 true).run Tryz.prog w = .ok (.tuple #[.agg #[], .bool false]) w := by kernel_rfl
theorem ta_nil_flag (w : World) : (Instr.typeAssert .nilIface 79 90 true).run Tryz.prog w = .ok (.tuple #[.bool false, .bool false]) w := by kernel_rfl
theorem ta_absent_flag (x : Value) (w : World) : (Instr.typeAssert (.iface 139 x) 79 90 true).run Tryz.prog w = .ok (.tuple #[.bool false, .bool false]) w := by kernel_rfl
theorem ta_flag_flag (x : Value) (w : World) : (Instr.typeAssert (.iface 90 x) 79 90 true).run Tryz.prog w = .ok (.tuple #[x, .bool true]) w := by kernel_rfl
theorem ta_whole_flag (x : Value) (w : World) : (Instr.typeAssert (.iface 140 x) 79 90 true).run Tryz.prog w = .ok (.tuple #[.bool false, .bool false]) w := by kernel_rfl
theorem ta_float_flag (x : Value) (w : World) : (Instr.typeAssert (.iface 141 x) 79 90 true).run Tryz.prog w = .ok (.tuple #[.bool false, .bool false]) w := by kernel_rfl
theorem ta_word_flag (x : Value) (w : World) : (Instr.typeAssert (.iface 142 x) 79 90 true).run Tryz.prog w = .ok (.tuple #[.bool false, .bool false]) w := by kernel_rfl
theorem ta_builtin_flag (x : Value) (w : World) : (Instr.typeAssert (.iface 145 x) 79 90 true).run Tryz.prog w = .ok (.tuple #[.bool false, .bool false]) w := by kernel_rfl
theorem ta_made_flag (x : Value) (w : World) : (Instr.typeAssert (.iface 144 x) 79 90 true).run Tryz.prog w = .ok (.tuple #[.bool false, .bool false]) w := by kernel_rfl
theorem ta_nil_whole (w : World) : (Instr.typeAssert .nilIface 79 140 true).run Tryz.prog w = .ok (.tuple #[.int .i64 0, .bool false]) w := by kernel_rfl
theorem ta_absent_whole (x : Value) (w : World) : (Instr.typeAssert (.iface 139 x) 79 140 true).run Tryz.prog w = .ok (.tuple #[.int .i64 0, .bool false]) w := by kernel_rfl
theorem ta_flag_whole (x : Value) (w : World) : (Instr.typeAssert (.iface 90 x) 79 140 true).run Tryz.prog w = .ok (.tuple #[.int .i64 0, .bool false]) w := by kernel_rfl
theorem ta_whole_whole (x : Value) (w : World) : (Instr.typeAssert (.iface 140 x) 79 140 true).run Tryz.prog w = .ok (.tuple #[x, .bool true]) w := by kernel_rfl
theorem ta_float_whole (x : Value) (w : World) : (Instr.typeAssert (.iface 141 x) 79 140 true).run Tryz.prog w = .ok (.tuple #[.int .i64 0, .bool false]) w := by kernel_rfl
theorem ta_word_whole (x : Value) (w : World) : (Instr.typeAssert (.iface 142 x) 79 140 true).run Tryz.prog w = .ok (.tuple #[.int .i64 0, .bool false]) w := by kernel_rfl
theorem ta_builtin_whole (x : Value) (w : World) : (Instr.typeAssert (.iface 145 x) 79 140 true).run Tryz.prog w = .ok (.tuple #[.int .i64 0, .bool false]) w := by kernel_rfl
theorem ta_made_whole (x : Value) (w : World) : (Instr.typeAssert (.iface 144 x) 79 140 true).run Tryz.prog w = .ok (.tuple #[.int .i64 0, .bool false]) w := by kernel_rfl
theorem ta_nil_float (w : World) : (Instr.typeAssert .nilIface 79 141 true).run Tryz.prog w = .ok (.tuple #[.float .f64 0, .bool false]) w := by kernel_rfl
theorem ta_absent_float (x : Value) (w : World) : (Instr.typeAssert (.iface 139 x) 79 141 true).run Tryz.prog w = .ok (.tuple #[.float .f64 0, .bool false]) w := by kernel_rfl
theorem ta_flag_float (x : Value) (w : World) : (Instr.typeAssert (.iface 90 x) 79 141 true).run Tryz.prog w = .ok (.tuple #[.float .f64 0, .bool false]) w := by kernel_rfl
theorem ta_whole_float (x : Value) (w : World) : (Instr.typeAssert (.iface 140 x) 79 141 true).run Tryz.prog w = .ok (.tuple #[.float .f64 0, .bool false]) w := by kernel_rfl
theorem ta_float_float (x : Value) (w : World) : (Instr.typeAssert (.iface 141 x) 79 141 true).run Tryz.prog w = .ok (.tuple #[x, .bool true]) w := by kernel_rfl
theorem ta_word_float (x : Value) (w : World) : (Instr.typeAssert (.iface 142 x) 79 141 true).run Tryz.prog w = .ok (.tuple #[.float .f64 0, .bool false]) w := by kernel_rfl
theorem ta_builtin_float (x : Value) (w : World) : (Instr.typeAssert (.iface 145 x) 79 141 true).run Tryz.prog w = .ok (.tuple #[.float .f64 0, .bool false]) w := by kernel_rfl
theorem ta_made_float (x : Value) (w : World) : (Instr.typeAssert (.iface 144 x) 79 141 true).run Tryz.prog w = .ok (.tuple #[.float .f64 0, .bool false]) w := by kernel_rfl
theorem ta_nil_word (w : World) : (Instr.typeAssert .nilIface 79 142 true).run Tryz.prog w = .ok (.tuple #[.string ⟨#[]⟩, .bool false]) w := by kernel_rfl
theorem ta_absent_word (x : Value) (w : World) : (Instr.typeAssert (.iface 139 x) 79 142 true).run Tryz.prog w = .ok (.tuple #[.string ⟨#[]⟩, .bool false]) w := by kernel_rfl
theorem ta_flag_word (x : Value) (w : World) : (Instr.typeAssert (.iface 90 x) 79 142 true).run Tryz.prog w = .ok (.tuple #[.string ⟨#[]⟩, .bool false]) w := by kernel_rfl
theorem ta_whole_word (x : Value) (w : World) : (Instr.typeAssert (.iface 140 x) 79 142 true).run Tryz.prog w = .ok (.tuple #[.string ⟨#[]⟩, .bool false]) w := by kernel_rfl
theorem ta_float_word (x : Value) (w : World) : (Instr.typeAssert (.iface 141 x) 79 142 true).run Tryz.prog w = .ok (.tuple #[.string ⟨#[]⟩, .bool false]) w := by kernel_rfl
theorem ta_word_word (x : Value) (w : World) : (Instr.typeAssert (.iface 142 x) 79 142 true).run Tryz.prog w = .ok (.tuple #[x, .bool true]) w := by kernel_rfl
theorem ta_builtin_word (x : Value) (w : World) : (Instr.typeAssert (.iface 145 x) 79 142 true).run Tryz.prog w = .ok (.tuple #[.string ⟨#[]⟩, .bool false]) w := by kernel_rfl
theorem ta_made_word (x : Value) (w : World) : (Instr.typeAssert (.iface 144 x) 79 142 true).run Tryz.prog w = .ok (.tuple #[.string ⟨#[]⟩, .bool false]) w := by kernel_rfl
end Go.Proofs.YtiidepafifodjabGreat
