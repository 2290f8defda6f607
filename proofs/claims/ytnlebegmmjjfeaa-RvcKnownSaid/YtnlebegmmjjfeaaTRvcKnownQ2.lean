/- Calls that RvcKnown makes, read once and kept: a part. -/
import Derived.Test.YtnlebegmmjjfeaaUd
namespace Go.Proofs.Ytnlebegmmjjfeaa.Sx
open Go
set_option maxRecDepth 100000
def kept3 : List Kept := [{ fn := 12, args := [.agg [.n .u8 (.lit 4), .n .u8 (.lit 0), .n .u8 (.lit 1), .n .u8 (.lit 0), .n .i64 (.lit 0), .n .u16 (.lit 0), .n .u8 (.lit 2)]], val := .tup [.n .u16 (.lit 32898), .n .i64 (.lit 0)] }]
theorem kept3_ok : keptOk Try.prog noGlob noBase 300 40 kept3 = true := by kernel_rfl
theorem kept3_is : ∀ k ∈ kept3, k.is Try.prog := kept_is (noBase_ok _ _) (by kernel_rfl) kept3_ok
def kept7 : List Kept := [{ fn := 12, args := [.agg [.n .u8 (.lit 22), .n .u8 (.lit 8), .n .u8 (.lit 2), .n .u8 (.lit 0), .n .i64 (.lit 4), .n .u16 (.lit 0), .n .u8 (.lit 2)]], val := .tup [.n .u16 (.lit 64), .n .i64 (.lit 0)] }]
theorem kept7_ok : keptOk Try.prog noGlob noBase 300 40 kept7 = true := by kernel_rfl
theorem kept7_is : ∀ k ∈ kept7, k.is Try.prog := kept_is (noBase_ok _ _) (by kernel_rfl) kept7_ok
def kept11 : List Kept := [{ fn := 12, args := [.agg [.n .u8 (.lit 14), .n .u8 (.lit 10), .n .u8 (.lit 11), .n .u8 (.lit 0), .n .i64 (.lit 0), .n .u16 (.lit 0), .n .u8 (.lit 2)]], val := .tup [.n .u16 (.lit 24968), .n .i64 (.lit 0)] }]
theorem kept11_ok : keptOk Try.prog noGlob noBase 300 40 kept11 = true := by kernel_rfl
theorem kept11_is : ∀ k ∈ kept11, k.is Try.prog := kept_is (noBase_ok _ _) (by kernel_rfl) kept11_ok
def kept15 : List Kept := [{ fn := 12, args := [.agg [.n .u8 (.lit 53), .n .u8 (.lit 0), .n .u8 (.lit 0), .n .u8 (.lit 0), .n .i64 (.lit 0), .n .u16 (.lit 0), .n .u8 (.lit 2)]], val := .tup [.n .u16 (.lit 36866), .n .i64 (.lit 0)] }]
theorem kept15_ok : keptOk Try.prog noGlob noBase 300 40 kept15 = true := by kernel_rfl
theorem kept15_is : ∀ k ∈ kept15, k.is Try.prog := kept_is (noBase_ok _ _) (by kernel_rfl) kept15_ok
def kept19 : List Kept := [{ fn := 12, args := [.agg [.n .u8 (.lit 32), .n .u8 (.lit 10), .n .u8 (.lit 10), .n .u8 (.lit 11), .n .i64 (.lit 0), .n .u16 (.lit 0), .n .u8 (.lit 2)]], val := .tup [.n .u16 (.lit 36109), .n .i64 (.lit 0)] }]
theorem kept19_ok : keptOk Try.prog noGlob noBase 300 40 kept19 = true := by kernel_rfl
theorem kept19_is : ∀ k ∈ kept19, k.is Try.prog := kept_is (noBase_ok _ _) (by kernel_rfl) kept19_ok
def kept23 : List Kept := [{ fn := 12, args := [.agg [.n .u8 (.lit 21), .n .u8 (.lit 0), .n .u8 (.lit 2), .n .u8 (.lit 10), .n .i64 (.lit 8), .n .u16 (.lit 0), .n .u8 (.lit 2)]], val := .tup [.n .u16 (.lit 58410), .n .i64 (.lit 0)] }]
theorem kept23_ok : keptOk Try.prog noGlob noBase 300 40 kept23 = true := by kernel_rfl
theorem kept23_is : ∀ k ∈ kept23, k.is Try.prog := kept_is (noBase_ok _ _) (by kernel_rfl) kept23_ok
def kept27 : List Kept := [{ fn := 12, args := [.agg [.n .u8 (.lit 0), .n .u8 (.lit 0), .n .u8 (.lit 0), .n .u8 (.lit 0), .n .i64 (.lit 0), .n .u16 (.lit 0), .n .u8 (.lit 2)]], val := .tup [.n .u16 (.lit 0), .n .i64 (.lit 3)] }]
theorem kept27_ok : keptOk Try.prog noGlob noBase 300 40 kept27 = true := by kernel_rfl
theorem kept27_is : ∀ k ∈ kept27, k.is Try.prog := kept_is (noBase_ok _ _) (by kernel_rfl) kept27_ok
def kept31 : List Kept := [{ fn := 12, args := [.agg [.n .u8 (.lit 1), .n .u8 (.lit 11), .n .u8 (.lit 0), .n .u8 (.lit 0), .n .i64 (.lit (.negSucc 131071)), .n .u16 (.lit 0), .n .u8 (.lit 2)]], val := .tup [.n .u16 (.lit 30081), .n .i64 (.lit 0)] }]
theorem kept31_ok : keptOk Try.prog noGlob noBase 300 40 kept31 = true := by kernel_rfl
theorem kept31_is : ∀ k ∈ kept31, k.is Try.prog := kept_is (noBase_ok _ _) (by kernel_rfl) kept31_ok
end Go.Proofs.Ytnlebegmmjjfeaa.Sx
