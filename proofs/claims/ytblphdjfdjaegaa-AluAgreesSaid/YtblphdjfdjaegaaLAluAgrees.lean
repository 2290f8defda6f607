/- AluAgrees: what the reader is told ahead, and that it answers true. -/
import Derived.Test.YtblphdjfdjaegaaSw
namespace Go.Proofs.Ytblphdjfdjaegaa.Sx
open Go
set_option maxRecDepth 100000
abbrev v0 : N := .var 0 (0) 18446744073709551615
abbrev v1 : N := .var 1 (0) 18446744073709551615
abbrev v2 : N := .var 2 (0) 18446744073709551615
def fact0 : N := (.eq (.ar .sub .u64 (.ar .add .u64 v0 v1) v1) v0)
def fact1 : N := (.eq (.ar .xor .u64 (.ar .xor .u64 v0 v1) v1) v0)
def fact2 : N := (.eq (.ar .add .u64 (.ar .and .u64 v0 v1) (.ar .or .u64 v0 v1)) (.ar .add .u64 v0 v1))
def fact3 : N := (.eq (.ar .add .u64 v0 (.ar .add .u64 v1 v2)) (.ar .add .u64 (.ar .add .u64 v0 v1) v2))
def fact4 : N := (.eq (.ar .shl .u64 (.ar .shl .u64 v0 (.ar .and .u64 (.ar .rem .u64 v2 (.lit 63)) (.lit 63))) (.lit 1)) (.ar .shl .u64 v0 (.ar .and .u64 (.ar .add .u64 (.ar .rem .u64 v2 (.lit 63)) (.lit 1)) (.lit 63))))
def fact5 : N := (.eq (.ar .shr .u64 (.ar .shr .u64 v0 (.ar .and .u64 (.ar .rem .u64 v2 (.lit 63)) (.lit 63))) (.lit 1)) (.ar .shr .u64 v0 (.ar .and .u64 (.ar .add .u64 (.ar .rem .u64 v2 (.lit 63)) (.lit 1)) (.lit 63))))
def fact6 : N := (.eq (.conv .u64 (.ar .shr .i64 (.conv .i64 (.ar .shr .i64 (.conv .i64 v0) (.ar .and .u64 (.ar .rem .u64 v2 (.lit 63)) (.lit 63)))) (.lit 1))) (.conv .u64 (.ar .shr .i64 (.conv .i64 v0) (.ar .and .u64 (.ar .add .u64 (.ar .rem .u64 v2 (.lit 63)) (.lit 1)) (.lit 63)))))
def fact7 : N := (.eq (.ar .shl .u64 v0 (.ar .and .u64 v2 (.lit 63))) (.ar .shl .u64 v0 (.ar .and .u64 (.ar .and .u64 v2 (.lit 63)) (.lit 63))))
def fact8 : N := (.eq (.conv .u64 (.ar .shr .i64 (.conv .i64 v0) (.lit 0))) v0)
def common : Pc := [(fact0, true), (fact1, true), (fact2, true), (fact3, true), (fact4, true), (fact5, true), (fact6, true), (fact7, true), (fact8, true)]
def case0 : Pc := [((.eq v0 v1), true), ((.lt v0 v1), false), ((.lt v1 v0), false), ((.lt (.ar .xor .u64 v0 (.lit 9223372036854775808)) (.ar .xor .u64 v1 (.lit 9223372036854775808))), false), ((.lt (.conv .i64 v0) (.conv .i64 v1)), false), ((.lt (.conv .i64 v1) (.conv .i64 v0)), false)]
def case1 : Pc := [((.eq v0 v1), false), ((.lt v0 v1), true), ((.lt v1 v0), false), ((.lt (.ar .xor .u64 v0 (.lit 9223372036854775808)) (.ar .xor .u64 v1 (.lit 9223372036854775808))), true), ((.lt (.conv .i64 v0) (.conv .i64 v1)), true), ((.lt (.conv .i64 v1) (.conv .i64 v0)), false)]
def case2 : Pc := [((.eq v0 v1), false), ((.lt v0 v1), true), ((.lt v1 v0), false), ((.lt (.ar .xor .u64 v0 (.lit 9223372036854775808)) (.ar .xor .u64 v1 (.lit 9223372036854775808))), false), ((.lt (.conv .i64 v0) (.conv .i64 v1)), false), ((.lt (.conv .i64 v1) (.conv .i64 v0)), true)]
def case3 : Pc := [((.eq v0 v1), false), ((.lt v0 v1), false), ((.lt v1 v0), true), ((.lt (.ar .xor .u64 v0 (.lit 9223372036854775808)) (.ar .xor .u64 v1 (.lit 9223372036854775808))), true), ((.lt (.conv .i64 v0) (.conv .i64 v1)), true), ((.lt (.conv .i64 v1) (.conv .i64 v0)), false)]
def case4 : Pc := [((.eq v0 v1), false), ((.lt v0 v1), false), ((.lt v1 v0), true), ((.lt (.ar .xor .u64 v0 (.lit 9223372036854775808)) (.ar .xor .u64 v1 (.lit 9223372036854775808))), false), ((.lt (.conv .i64 v0) (.conv .i64 v1)), false), ((.lt (.conv .i64 v1) (.conv .i64 v0)), true)]
def lawArgs : List V := [.n .u64 (.var 0 0 18446744073709551615), .n .u64 (.var 1 0 18446744073709551615), .n .u64 (.var 2 0 18446744073709551615)]
theorem read_case0 : yes (ev Try.prog noGlob noBase 80 16 8 lawArgs (stPc (case0 ++ common))) = true := by kernel_rfl
theorem read_case1 : yes (ev Try.prog noGlob noBase 80 16 8 lawArgs (stPc (case1 ++ common))) = true := by kernel_rfl
theorem read_case2 : yes (ev Try.prog noGlob noBase 80 16 8 lawArgs (stPc (case2 ++ common))) = true := by kernel_rfl
theorem read_case3 : yes (ev Try.prog noGlob noBase 80 16 8 lawArgs (stPc (case3 ++ common))) = true := by kernel_rfl
theorem read_case4 : yes (ev Try.prog noGlob noBase 80 16 8 lawArgs (stPc (case4 ++ common))) = true := by kernel_rfl
end Go.Proofs.Ytblphdjfdjaegaa.Sx
