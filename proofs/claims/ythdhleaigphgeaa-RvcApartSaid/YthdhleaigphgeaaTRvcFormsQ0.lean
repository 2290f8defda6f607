/- Calls that RvcForms makes, read once and kept: a part. -/
import Derived.Test.YthdhleaigphgeaaUd
set_option linter.unusedVariables false
set_option linter.unusedSimpArgs false
namespace Go.Proofs.Ythdhleaigphgeaa.Sx
open Go
set_option maxRecDepth 100000
def kept1 : List Kept := [{ fn := 10, args := [.agg [.n .u8 (.lit 22), .n .u8 (.lit 10), .n .u8 (.lit 10), .n .u8 (.lit 0), .n .i64 (.lit (.negSucc 0)), .n .u16 (.lit 0), .n .u8 (.lit 2)]], val := .tup [.n .u16 (.lit 5501), .n .i64 (.lit 0)] }]
theorem kept1_ok : keptOk Try.prog noGlob noBase 300 40 kept1 = true := by kernel_rfl
theorem kept1_is : ∀ k ∈ kept1, k.is Try.prog := kept_is (noBase_ok _ _) (by kernel_rfl) kept1_ok
def kept3 : List Kept := [{ fn := 10, args := [.agg [.n .u8 (.lit 4), .n .u8 (.lit 0), .n .u8 (.lit 1), .n .u8 (.lit 0), .n .i64 (.lit 0), .n .u16 (.lit 0), .n .u8 (.lit 2)]], val := .tup [.n .u16 (.lit 32898), .n .i64 (.lit 0)] }]
theorem kept3_ok : keptOk Try.prog noGlob noBase 300 40 kept3 = true := by kernel_rfl
theorem kept3_is : ∀ k ∈ kept3, k.is Try.prog := kept_is (noBase_ok _ _) (by kernel_rfl) kept3_ok
end Go.Proofs.Ythdhleaigphgeaa.Sx
