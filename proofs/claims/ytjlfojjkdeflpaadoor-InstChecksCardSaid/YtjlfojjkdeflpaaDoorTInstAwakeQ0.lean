/- Calls that InstAwake makes, read once and kept: a part. -/
import Derived.Test.YtjlfojjkdeflpaaDoorTInstAwakeQ
set_option linter.unusedVariables false
set_option linter.unusedSimpArgs false
namespace Go.Proofs.YtjlfojjkdeflpaaDoor.Sx
open Go
set_option maxRecDepth 100000
def kept1 : List Kept := [{ fn := 8, args := [.n .u32 (.lit 5243027)], val := .agg [.n .u8 (.lit 22), .n .u8 (.lit 1), .n .u8 (.lit 0), .n .u8 (.lit 0), .n .i64 (.lit 5), .n .u16 (.lit 0), .n .u8 (.lit 4)] },
  { fn := 8, args := [.n .u32 (.lit 4263550691)], val := .agg [.n .u8 (.lit 6), .n .u8 (.lit 0), .n .u8 (.lit 1), .n .u8 (.lit 2), .n .i64 (.lit (.negSucc 3)), .n .u16 (.lit 0), .n .u8 (.lit 4)] }]
theorem kept1_ok : keptOkT Tryd.prog tabs noBase 822752278660603021077484591278675252491367932816789931674304812 30 kept1 = true := by kernel_rfl
theorem kept1_is : ∀ k ∈ kept1, k.isT Tryd.prog tabs := keptT_is (noBase_ok _ _) (by kernel_rfl) (by kernel_rfl) (by kernel_rfl) kept1_ok
def kept2 : List Kept := [{ fn := 8, args := [.n .u32 (.lit 0)], val := .agg [.n .u8 (.lit 0), .n .u8 (.lit 0), .n .u8 (.lit 0), .n .u8 (.lit 0), .n .i64 (.lit 0), .n .u16 (.lit 0), .n .u8 (.lit 4)] }]
theorem kept2_ok : keptOkT Tryd.prog tabs noBase 822752278660603021077484591278675252491367932816789931674304812 30 kept2 = true := by kernel_rfl
theorem kept2_is : ∀ k ∈ kept2, k.isT Tryd.prog tabs := keptT_is (noBase_ok _ _) (by kernel_rfl) (by kernel_rfl) (by kernel_rfl) kept2_ok
end Go.Proofs.YtjlfojjkdeflpaaDoor.Sx
