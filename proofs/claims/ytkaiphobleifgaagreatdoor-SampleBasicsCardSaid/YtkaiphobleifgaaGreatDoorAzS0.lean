/- A state on the way through a closed call. -/
import Derived.Test.YtkaiphobleifgaaGreatDoorTd4
set_option linter.all false
namespace Go.Tidy
open Go
namespace A14
def a0 : Regs := .nil
def t0 (e1 e2 : TypeId) : Tr TB := (.node none (.node (some (.cells [(.int .i64 1), (.int .i64 0), (.int .i64 0), (.int .i64 (-1)), (.int .i64 (-1)), (.int .i64 0), (.int .i64 0), (.int .i64 1)] true false e1)) .nil .nil) (.node (some (.cells [(.int .u64 1), (.int .u64 10), (.int .u64 100), (.int .u64 1000), (.int .u64 10000), (.int .u64 100000), (.int .u64 1000000), (.int .u64 10000000), (.int .u64 100000000), (.int .u64 1000000000), (.int .u64 10000000000), (.int .u64 100000000000), (.int .u64 1000000000000), (.int .u64 10000000000000), (.int .u64 100000000000000), (.int .u64 1000000000000000), (.int .u64 10000000000000000), (.int .u64 100000000000000000), (.int .u64 1000000000000000000), (.int .u64 10000000000000000000)] true false e2)) .nil .nil))
def h0 (e1 e2 : TypeId) : TH := ⟨t0 e1 e2, 8, 8, []⟩
end A14
end Go.Tidy
