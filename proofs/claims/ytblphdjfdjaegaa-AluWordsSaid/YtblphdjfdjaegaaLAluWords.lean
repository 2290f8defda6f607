/- AluWords: what the reader is told ahead, and that it answers true. -/
import Derived.Test.YtblphdjfdjaegaaTAluWords
namespace Go.Proofs.Ytblphdjfdjaegaa.Sx
open Go
set_option maxRecDepth 100000
abbrev v0 : N := .var 0 (0) 18446744073709551615
abbrev v1 : N := .var 1 (0) 18446744073709551615
abbrev v2 : N := .var 2 (0) 4294967295
abbrev v3 : N := .var 3 (0) 4294967295
def common : Pc := []
def case0 : Pc := [((.eq (.conv .i32 v1) (.lit 0)), true), ((.eq (.ar .and .u64 v1 (.lit 4294967295)) (.lit 0)), true)]
def case1 : Pc := [((.eq (.conv .i32 v1) (.lit 0)), false), ((.eq (.conv .i32 v1) (.lit (-1))), true), ((.eq (.ar .and .u64 v1 (.lit 4294967295)) (.lit 0)), true)]
def case2 : Pc := [((.eq (.conv .i32 v1) (.lit 0)), false), ((.eq (.conv .i32 v1) (.lit (-1))), false), ((.eq (.ar .and .u64 v1 (.lit 4294967295)) (.lit 0)), true)]
def case3 : Pc := [((.eq (.conv .i32 v1) (.lit 0)), true), ((.eq (.ar .and .u64 v1 (.lit 4294967295)) (.lit 0)), false)]
def case4 : Pc := [((.eq (.conv .i32 v1) (.lit 0)), false), ((.eq (.conv .i32 v1) (.lit (-1))), true), ((.eq (.ar .and .u64 v1 (.lit 4294967295)) (.lit 0)), false)]
def case5 : Pc := [((.eq (.conv .i32 v1) (.lit 0)), false), ((.eq (.conv .i32 v1) (.lit (-1))), false), ((.eq (.ar .and .u64 v1 (.lit 4294967295)) (.lit 0)), false)]
def lawArgs : List V := [.n .u64 (.var 0 0 18446744073709551615), .n .u64 (.var 1 0 18446744073709551615), .agg [.n .u32 (.var 2 0 4294967295), .n .u32 (.var 3 0 4294967295)]]
theorem read_case0 : yes (ev Try.prog noGlob base 80 16 7 lawArgs (stPc (case0 ++ common))) = true := by kernel_rfl
theorem read_case1 : yes (ev Try.prog noGlob base 80 16 7 lawArgs (stPc (case1 ++ common))) = true := by kernel_rfl
theorem read_case2 : yes (ev Try.prog noGlob base 80 16 7 lawArgs (stPc (case2 ++ common))) = true := by kernel_rfl
theorem read_case3 : yes (ev Try.prog noGlob base 80 16 7 lawArgs (stPc (case3 ++ common))) = true := by kernel_rfl
theorem read_case4 : yes (ev Try.prog noGlob base 80 16 7 lawArgs (stPc (case4 ++ common))) = true := by kernel_rfl
theorem read_case5 : yes (ev Try.prog noGlob base 80 16 7 lawArgs (stPc (case5 ++ common))) = true := by kernel_rfl
end Go.Proofs.Ytblphdjfdjaegaa.Sx
