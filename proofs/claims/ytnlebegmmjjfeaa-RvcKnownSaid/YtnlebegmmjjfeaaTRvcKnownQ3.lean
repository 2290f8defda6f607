/- Calls that RvcKnown makes, read once and kept: a part. -/
import Derived.Test.YtnlebegmmjjfeaaUd
namespace Go.Proofs.Ytnlebegmmjjfeaa.Sx
open Go
set_option maxRecDepth 100000
def kept4 : List Kept := [{ fn := 12, args := [.agg [.n .u8 (.lit 3), .n .u8 (.lit 0), .n .u8 (.lit 0), .n .u8 (.lit 0), .n .i64 (.lit (.negSucc 3)), .n .u16 (.lit 0), .n .u8 (.lit 2)]], val := .tup [.n .u16 (.lit 49141), .n .i64 (.lit 0)] }]
theorem kept4_ok : keptOk Try.prog noGlob noBase 300 40 kept4 = true := by kernel_rfl
theorem kept4_is : ∀ k ∈ kept4, k.is Try.prog := kept_is (noBase_ok _ _) (by kernel_rfl) kept4_ok
def kept8 : List Kept := [{ fn := 12, args := [.agg [.n .u8 (.lit 22), .n .u8 (.lit 2), .n .u8 (.lit 2), .n .u8 (.lit 0), .n .i64 (.lit (.negSucc 63)), .n .u16 (.lit 0), .n .u8 (.lit 2)]], val := .tup [.n .u16 (.lit 28985), .n .i64 (.lit 0)] }]
theorem kept8_ok : keptOk Try.prog noGlob noBase 300 40 kept8 = true := by kernel_rfl
theorem kept8_is : ∀ k ∈ kept8, k.is Try.prog := kept_is (noBase_ok _ _) (by kernel_rfl) kept8_ok
def kept12 : List Kept := [{ fn := 12, args := [.agg [.n .u8 (.lit 4), .n .u8 (.lit 1), .n .u8 (.lit 11), .n .u8 (.lit 0), .n .i64 (.lit 0), .n .u16 (.lit 0), .n .u8 (.lit 2)]], val := .tup [.n .u16 (.lit 38274), .n .i64 (.lit 0)] }]
theorem kept12_ok : keptOk Try.prog noGlob noBase 300 40 kept12 = true := by kernel_rfl
theorem kept12_is : ∀ k ∈ kept12, k.is Try.prog := kept_is (noBase_ok _ _) (by kernel_rfl) kept12_ok
def kept16 : List Kept := [{ fn := 12, args := [.agg [.n .u8 (.lit 5), .n .u8 (.lit 0), .n .u8 (.lit 10), .n .u8 (.lit 0), .n .i64 (.lit 6), .n .u16 (.lit 0), .n .u8 (.lit 2)]], val := .tup [.n .u16 (.lit 49433), .n .i64 (.lit 0)] }]
theorem kept16_ok : keptOk Try.prog noGlob noBase 300 40 kept16 = true := by kernel_rfl
theorem kept16_is : ∀ k ∈ kept16, k.is Try.prog := kept_is (noBase_ok _ _) (by kernel_rfl) kept16_ok
def kept20 : List Kept := [{ fn := 12, args := [.agg [.n .u8 (.lit 45), .n .u8 (.lit 10), .n .u8 (.lit 10), .n .u8 (.lit 11), .n .i64 (.lit 0), .n .u16 (.lit 0), .n .u8 (.lit 2)]], val := .tup [.n .u16 (.lit 40237), .n .i64 (.lit 0)] }]
theorem kept20_ok : keptOk Try.prog noGlob noBase 300 40 kept20 = true := by kernel_rfl
theorem kept20_is : ∀ k ∈ kept20, k.is Try.prog := kept_is (noBase_ok _ _) (by kernel_rfl) kept20_ok
def kept24 : List Kept := [{ fn := 12, args := [.agg [.n .u8 (.lit 31), .n .u8 (.lit 0), .n .u8 (.lit 0), .n .u8 (.lit 0), .n .i64 (.lit 0), .n .u16 (.lit 0), .n .u8 (.lit 2)]], val := .tup [.n .u16 (.lit 0), .n .i64 (.lit 3)] }]
theorem kept24_ok : keptOk Try.prog noGlob noBase 300 40 kept24 = true := by kernel_rfl
theorem kept24_is : ∀ k ∈ kept24, k.is Try.prog := kept_is (noBase_ok _ _) (by kernel_rfl) kept24_ok
def kept28 : List Kept := [{ fn := 12, args := [.agg [.n .u8 (.lit 13), .n .u8 (.lit 40), .n .u8 (.lit 2), .n .u8 (.lit 0), .n .i64 (.lit 0), .n .u16 (.lit 0), .n .u8 (.lit 2)]], val := .tup [.n .u16 (.lit 0), .n .i64 (.lit 3)] }]
theorem kept28_ok : keptOk Try.prog noGlob noBase 300 40 kept28 = true := by kernel_rfl
theorem kept28_is : ∀ k ∈ kept28, k.is Try.prog := kept_is (noBase_ok _ _) (by kernel_rfl) kept28_ok
end Go.Proofs.Ytnlebegmmjjfeaa.Sx
