/- Calls that RvcForms makes, read once and kept: a part. -/
import Derived.Test.YthdhleaigphgeaaUd
set_option linter.unusedVariables false
set_option linter.unusedSimpArgs false
namespace Go.Proofs.Ythdhleaigphgeaa.Sx
open Go
set_option maxRecDepth 100000
def kept2 : List Kept := [{ fn := 10, args := [.agg [.n .u8 (.lit 13), .n .u8 (.lit 14), .n .u8 (.lit 11), .n .u8 (.lit 0), .n .i64 (.lit 0), .n .u16 (.lit 0), .n .u8 (.lit 2)]], val := .tup [.n .u16 (.lit 16792), .n .i64 (.lit 0)] }]
theorem kept2_ok : keptOk Try.prog noGlob noBase 300 40 kept2 = true := by kernel_rfl
theorem kept2_is : ∀ k ∈ kept2, k.is Try.prog := kept_is (noBase_ok _ _) (by kernel_rfl) kept2_ok
def kept4 : List Kept := [{ fn := 10, args := [.agg [.n .u8 (.lit 3), .n .u8 (.lit 0), .n .u8 (.lit 0), .n .u8 (.lit 0), .n .i64 (.lit (.negSucc 3)), .n .u16 (.lit 0), .n .u8 (.lit 2)]], val := .tup [.n .u16 (.lit 49141), .n .i64 (.lit 0)] }]
theorem kept4_ok : keptOk Try.prog noGlob noBase 300 40 kept4 = true := by kernel_rfl
theorem kept4_is : ∀ k ∈ kept4, k.is Try.prog := kept_is (noBase_ok _ _) (by kernel_rfl) kept4_ok
end Go.Proofs.Ythdhleaigphgeaa.Sx
