/- Calls that RvcKnown makes, read once and kept: a part. -/
import Derived.Test.YtnlebegmmjjfeaaUd
namespace Go.Proofs.Ytnlebegmmjjfeaa.Sx
open Go
set_option maxRecDepth 100000
def kept1 : List Kept := [{ fn := 12, args := [.agg [.n .u8 (.lit 22), .n .u8 (.lit 10), .n .u8 (.lit 10), .n .u8 (.lit 0), .n .i64 (.lit (.negSucc 0)), .n .u16 (.lit 0), .n .u8 (.lit 2)]], val := .tup [.n .u16 (.lit 5501), .n .i64 (.lit 0)] }]
theorem kept1_ok : keptOk Try.prog noGlob noBase 300 40 kept1 = true := by kernel_rfl
theorem kept1_is : ∀ k ∈ kept1, k.is Try.prog := kept_is (noBase_ok _ _) (by kernel_rfl) kept1_ok
def kept5 : List Kept := [{ fn := 12, args := [.agg [.n .u8 (.lit 22), .n .u8 (.lit 0), .n .u8 (.lit 0), .n .u8 (.lit 0), .n .i64 (.lit 0), .n .u16 (.lit 0), .n .u8 (.lit 2)]], val := .tup [.n .u16 (.lit 1), .n .i64 (.lit 0)] }]
theorem kept5_ok : keptOk Try.prog noGlob noBase 300 40 kept5 = true := by kernel_rfl
theorem kept5_is : ∀ k ∈ kept5, k.is Try.prog := kept_is (noBase_ok _ _) (by kernel_rfl) kept5_ok
def kept9 : List Kept := [{ fn := 12, args := [.agg [.n .u8 (.lit 1), .n .u8 (.lit 11), .n .u8 (.lit 0), .n .u8 (.lit 0), .n .i64 (.lit 4096), .n .u16 (.lit 0), .n .u8 (.lit 2)]], val := .tup [.n .u16 (.lit 25989), .n .i64 (.lit 0)] }]
theorem kept9_ok : keptOk Try.prog noGlob noBase 300 40 kept9 = true := by kernel_rfl
theorem kept9_is : ∀ k ∈ kept9, k.is Try.prog := kept_is (noBase_ok _ _) (by kernel_rfl) kept9_ok
def kept13 : List Kept := [{ fn := 12, args := [.agg [.n .u8 (.lit 31), .n .u8 (.lit 10), .n .u8 (.lit 0), .n .u8 (.lit 11), .n .i64 (.lit 0), .n .u16 (.lit 0), .n .u8 (.lit 2)]], val := .tup [.n .u16 (.lit 34094), .n .i64 (.lit 0)] }]
theorem kept13_ok : keptOk Try.prog noGlob noBase 300 40 kept13 = true := by kernel_rfl
theorem kept13_is : ∀ k ∈ kept13, k.is Try.prog := kept_is (noBase_ok _ _) (by kernel_rfl) kept13_ok
def kept17 : List Kept := [{ fn := 12, args := [.agg [.n .u8 (.lit 6), .n .u8 (.lit 0), .n .u8 (.lit 10), .n .u8 (.lit 0), .n .i64 (.lit (.negSucc 3)), .n .u16 (.lit 0), .n .u8 (.lit 2)]], val := .tup [.n .u16 (.lit 64885), .n .i64 (.lit 0)] }]
theorem kept17_ok : keptOk Try.prog noGlob noBase 300 40 kept17 = true := by kernel_rfl
theorem kept17_is : ∀ k ∈ kept17, k.is Try.prog := kept_is (noBase_ok _ _) (by kernel_rfl) kept17_ok
def kept21 : List Kept := [{ fn := 12, args := [.agg [.n .u8 (.lit 28), .n .u8 (.lit 10), .n .u8 (.lit 10), .n .u8 (.lit 0), .n .i64 (.lit 3), .n .u16 (.lit 0), .n .u8 (.lit 2)]], val := .tup [.n .u16 (.lit 1294), .n .i64 (.lit 0)] }]
theorem kept21_ok : keptOk Try.prog noGlob noBase 300 40 kept21 = true := by kernel_rfl
theorem kept21_is : ∀ k ∈ kept21, k.is Try.prog := kept_is (noBase_ok _ _) (by kernel_rfl) kept21_ok
def kept25 : List Kept := [{ fn := 12, args := [.agg [.n .u8 (.lit 22), .n .u8 (.lit 10), .n .u8 (.lit 10), .n .u8 (.lit 0), .n .i64 (.lit 32), .n .u16 (.lit 0), .n .u8 (.lit 2)]], val := .tup [.n .u16 (.lit 0), .n .i64 (.lit 3)] }]
theorem kept25_ok : keptOk Try.prog noGlob noBase 300 40 kept25 = true := by kernel_rfl
theorem kept25_is : ∀ k ∈ kept25, k.is Try.prog := kept_is (noBase_ok _ _) (by kernel_rfl) kept25_ok
def kept29 : List Kept := [{ fn := 12, args := [.agg [.n .u8 (.lit 31), .n .u8 (.lit 0), .n .u8 (.lit 0), .n .u8 (.lit 5), .n .i64 (.lit 0), .n .u16 (.lit 0), .n .u8 (.lit 2)]], val := .tup [.n .u16 (.lit 32790), .n .i64 (.lit 0)] }]
theorem kept29_ok : keptOk Try.prog noGlob noBase 300 40 kept29 = true := by kernel_rfl
theorem kept29_is : ∀ k ∈ kept29, k.is Try.prog := kept_is (noBase_ok _ _) (by kernel_rfl) kept29_ok
end Go.Proofs.Ytnlebegmmjjfeaa.Sx
