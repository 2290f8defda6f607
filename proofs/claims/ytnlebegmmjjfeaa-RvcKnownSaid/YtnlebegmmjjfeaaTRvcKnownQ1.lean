/- Calls that RvcKnown makes, read once and kept: a part. -/
import Derived.Test.YtnlebegmmjjfeaaUd
namespace Go.Proofs.Ytnlebegmmjjfeaa.Sx
open Go
set_option maxRecDepth 100000
def kept2 : List Kept := [{ fn := 12, args := [.agg [.n .u8 (.lit 13), .n .u8 (.lit 14), .n .u8 (.lit 11), .n .u8 (.lit 0), .n .i64 (.lit 0), .n .u16 (.lit 0), .n .u8 (.lit 2)]], val := .tup [.n .u16 (.lit 16792), .n .i64 (.lit 0)] }]
theorem kept2_ok : keptOk Try.prog noGlob noBase 300 40 kept2 = true := by kernel_rfl
theorem kept2_is : ∀ k ∈ kept2, k.is Try.prog := kept_is (noBase_ok _ _) (by kernel_rfl) kept2_ok
def kept6 : List Kept := [{ fn := 12, args := [.agg [.n .u8 (.lit 22), .n .u8 (.lit 10), .n .u8 (.lit 0), .n .u8 (.lit 0), .n .i64 (.lit 1), .n .u16 (.lit 0), .n .u8 (.lit 2)]], val := .tup [.n .u16 (.lit 17669), .n .i64 (.lit 0)] }]
theorem kept6_ok : keptOk Try.prog noGlob noBase 300 40 kept6 = true := by kernel_rfl
theorem kept6_is : ∀ k ∈ kept6, k.is Try.prog := kept_is (noBase_ok _ _) (by kernel_rfl) kept6_ok
def kept10 : List Kept := [{ fn := 12, args := [.agg [.n .u8 (.lit 20), .n .u8 (.lit 0), .n .u8 (.lit 11), .n .u8 (.lit 14), .n .i64 (.lit 0), .n .u16 (.lit 0), .n .u8 (.lit 2)]], val := .tup [.n .u16 (.lit 49560), .n .i64 (.lit 0)] }]
theorem kept10_ok : keptOk Try.prog noGlob noBase 300 40 kept10 = true := by kernel_rfl
theorem kept10_is : ∀ k ∈ kept10, k.is Try.prog := kept_is (noBase_ok _ _) (by kernel_rfl) kept10_ok
def kept14 : List Kept := [{ fn := 12, args := [.agg [.n .u8 (.lit 31), .n .u8 (.lit 10), .n .u8 (.lit 10), .n .u8 (.lit 11), .n .i64 (.lit 0), .n .u16 (.lit 0), .n .u8 (.lit 2)]], val := .tup [.n .u16 (.lit 38190), .n .i64 (.lit 0)] }]
theorem kept14_ok : keptOk Try.prog noGlob noBase 300 40 kept14 = true := by kernel_rfl
theorem kept14_is : ∀ k ∈ kept14, k.is Try.prog := kept_is (noBase_ok _ _) (by kernel_rfl) kept14_ok
def kept18 : List Kept := [{ fn := 12, args := [.agg [.n .u8 (.lit 27), .n .u8 (.lit 10), .n .u8 (.lit 10), .n .u8 (.lit 0), .n .i64 (.lit 1), .n .u16 (.lit 0), .n .u8 (.lit 2)]], val := .tup [.n .u16 (.lit 35077), .n .i64 (.lit 0)] }]
theorem kept18_ok : keptOk Try.prog noGlob noBase 300 40 kept18 = true := by kernel_rfl
theorem kept18_is : ∀ k ∈ kept18, k.is Try.prog := kept_is (noBase_ok _ _) (by kernel_rfl) kept18_ok
def kept22 : List Kept := [{ fn := 12, args := [.agg [.n .u8 (.lit 13), .n .u8 (.lit 10), .n .u8 (.lit 2), .n .u8 (.lit 0), .n .i64 (.lit 0), .n .u16 (.lit 0), .n .u8 (.lit 2)]], val := .tup [.n .u16 (.lit 17666), .n .i64 (.lit 0)] }]
theorem kept22_ok : keptOk Try.prog noGlob noBase 300 40 kept22 = true := by kernel_rfl
theorem kept22_is : ∀ k ∈ kept22, k.is Try.prog := kept_is (noBase_ok _ _) (by kernel_rfl) kept22_ok
def kept26 : List Kept := [{ fn := 12, args := [.agg [.n .u8 (.lit 22), .n .u8 (.lit 10), .n .u8 (.lit 10), .n .u8 (.lit 0), .n .i64 (.lit 1), .n .u16 (.lit 0), .n .u8 (.lit 4)]], val := .tup [.n .u16 (.lit 0), .n .i64 (.lit 3)] }]
theorem kept26_ok : keptOk Try.prog noGlob noBase 300 40 kept26 = true := by kernel_rfl
theorem kept26_is : ∀ k ∈ kept26, k.is Try.prog := kept_is (noBase_ok _ _) (by kernel_rfl) kept26_ok
def kept30 : List Kept := [{ fn := 12, args := [.agg [.n .u8 (.lit 1), .n .u8 (.lit 11), .n .u8 (.lit 0), .n .u8 (.lit 0), .n .i64 (.lit 0), .n .u16 (.lit 0), .n .u8 (.lit 2)]], val := .tup [.n .u16 (.lit 0), .n .i64 (.lit 3)] }]
theorem kept30_ok : keptOk Try.prog noGlob noBase 300 40 kept30 = true := by kernel_rfl
theorem kept30_is : ∀ k ∈ kept30, k.is Try.prog := kept_is (noBase_ok _ _) (by kernel_rfl) kept30_ok
end Go.Proofs.Ytnlebegmmjjfeaa.Sx
