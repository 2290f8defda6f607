/- Calls that PlicKnown makes, read once and kept. -/
import Derived.Test.YtlgefljbhbefgaaDoorSy
namespace Go.Proofs.YtlgefljbhbefgaaDoor.Sx
open Go
set_option maxRecDepth 100000
def tabs : List Tab := [{ g := 1, k := .u8, ns := [0, 1, 28, 2, 29, 14, 24, 3, 30, 22, 20, 15, 25, 17, 4, 8, 31, 27, 13, 23, 21, 19, 16, 7, 26, 12, 18, 6, 11, 5, 10, 9] },
  { g := 2, k := .u8, ns := [0, 1, 56, 2, 57, 49, 28, 3, 61, 58, 42, 50, 38, 29, 17, 4, 62, 47, 59, 36, 45, 43, 51, 22, 53, 39, 33, 30, 24, 18, 12, 5, 63, 55, 48, 27, 60, 41, 37, 16, 46, 35, 44, 21, 52, 32, 23, 11, 54, 26, 40, 15, 34, 20, 31, 10, 25, 14, 19, 9, 13, 8, 7, 6] },
  { g := 0, k := .u64, ns := [1, 10, 100, 1000, 10000, 100000, 1000000, 10000000, 100000000, 1000000000, 10000000000, 100000000000, 1000000000000, 10000000000000, 100000000000000, 1000000000000000, 10000000000000000, 100000000000000000, 1000000000000000000, 10000000000000000000] }]
def kept1 : List Kept := [{ fn := 30, args := [.n .i64 (.lit 0)], val := .s [48] },
  { fn := 30, args := [.n .i64 (.lit 5)], val := .s [53] },
  { fn := 31, args := [.b (.lit 0), .s [104]], val := .s [] },
  { fn := 31, args := [.b (.lit 0), .s [112]], val := .s [] },
  { fn := 31, args := [.b (.lit 0), .s [115]], val := .s [] },
  { fn := 31, args := [.b (.lit 0), .s [32]], val := .s [] }]
theorem kept1_ok : keptOkT Tryd.prog tabs noBase 300 30 kept1 = true := by kernel_rfl
theorem kept1_is : ∀ k ∈ kept1, k.isT Tryd.prog tabs := keptT_is (noBase_ok _ _) (by kernel_rfl) (by kernel_rfl) (by kernel_rfl) kept1_ok
def kept2 : List Kept := [{ fn := 31, args := [.b (.lit 1), .s [104]], val := .s [104] },
  { fn := 31, args := [.b (.lit 1), .s [112]], val := .s [112] },
  { fn := 31, args := [.b (.lit 1), .s [115]], val := .s [115] },
  { fn := 31, args := [.b (.lit 1), .s [32]], val := .s [32] },
  { fn := 31, args := [.b (.lit 1), .s [48]], val := .s [48] },
  { fn := 32, args := [.n .u64 (.lit 0), .n .i64 (.lit 16)], val := .s [48] }]
theorem kept2_ok : keptOkT Tryd.prog tabs noBase 300 30 kept2 = true := by kernel_rfl
theorem kept2_is : ∀ k ∈ kept2, k.isT Tryd.prog tabs := keptT_is (noBase_ok _ _) (by kernel_rfl) (by kernel_rfl) (by kernel_rfl) kept2_ok
def kept3 : List Kept := [{ fn := 32, args := [.n .u64 (.lit 8), .n .i64 (.lit 16)], val := .s [56] },
  { fn := 61, args := [.n .u64 (.lit 16)], val := .n .i64 (.lit 4) }]
theorem kept3_ok : keptOkT Tryd.prog tabs noBase 300 30 kept3 = true := by kernel_rfl
theorem kept3_is : ∀ k ∈ kept3, k.isT Tryd.prog tabs := keptT_is (noBase_ok _ _) (by kernel_rfl) (by kernel_rfl) (by kernel_rfl) kept3_ok
def tab0 : List Kept := kept1 ++ (kept2 ++ (kept3))
theorem tab0_is : ∀ k ∈ tab0, k.isT Tryd.prog tabs := fun k hk => (List.mem_append.1 hk).elim (kept1_is k) fun hk => (List.mem_append.1 hk).elim (kept2_is k) fun hk => kept3_is k hk
def kept4 : List Kept := [{ fn := 7, args := [], val := .b (.lit 1) }]
theorem kept4_ok : keptOkT Tryd.prog tabs (keptEvT tabs tab0) 300 30 kept4 = true := by kernel_rfl
theorem kept4_is : ∀ k ∈ kept4, k.isT Tryd.prog tabs := keptT_is (keptEvT_ok tab0_is) (by kernel_rfl) (by kernel_rfl) (by kernel_rfl) kept4_ok
def tab1 : List Kept := tab0 ++ (kept4)
theorem tab1_is : ∀ k ∈ tab1, k.isT Tryd.prog tabs := fun k hk => (List.mem_append.1 hk).elim (tab0_is k) fun hk => kept4_is k hk
abbrev base : Ev := (keptEvT tabs tab1)
theorem base_ok : Snd Tryd.prog (tabGlob tabs) base := (keptEvT_ok tab1_is)
end Go.Proofs.YtlgefljbhbefgaaDoor.Sx
