/- The fields of a state that is made: names for them. -/
import Derived.Test.YtffhbmkpcenkoaaDoorTCsrMade
import Derived.Test.YtffhbmkpcenkoaaDoorUg
set_option linter.unusedVariables false
set_option linter.unusedSimpArgs false
namespace Go.Proofs.YtffhbmkpcenkoaaDoor.Sx
open Go
set_option maxRecDepth 100000
noncomputable def sF0 : V := .n .u64 (.var 0 0 18446744073709551615)
noncomputable def sF1 : V := .n .u64 (.ite (.eq (.ar .and .u64 (.ar .and .u64 (.var 1 0 18446744073709551615) (.lit 8264106)) (.lit 6144)) (.lit 4096)) (.ar .andNot .u64 (.ar .and .u64 (.var 1 0 18446744073709551615) (.lit 8264106)) (.lit 6144)) (.ar .and .u64 (.var 1 0 18446744073709551615) (.lit 8264106)))
noncomputable def sF2 : V := .n .u64 (.ar .and .u64 (.var 2 0 18446744073709551615) (.lit 2730))
noncomputable def sF3 : V := .n .u64 (.ar .and .u64 (.var 3 0 18446744073709551615) (.lit 546))
noncomputable def sF4 : V := .n .u64 (.ar .and .u64 (.var 4 0 18446744073709551615) (.lit 2696))
noncomputable def sF5 : V := .n .u64 (.ar .and .u64 (.var 5 0 18446744073709551615) (.lit 46079))
noncomputable def sF6 : V := .n .u64 (.ar .and .u64 (.var 6 0 18446744073709551615) (.lit 546))
noncomputable def sF7 : V := .n .u64 (.ar .and .u64 (.var 7 0 18446744073709551615) (.lit 18446744073709551613))
noncomputable def sF8 : V := .n .u64 (.ar .and .u64 (.var 8 0 18446744073709551615) (.lit 18446744073709551614))
noncomputable def sF9 : V := .n .u64 (.var 9 0 18446744073709551615)
noncomputable def sF10 : V := .n .u64 (.var 10 0 18446744073709551615)
noncomputable def sF11 : V := .n .u64 (.var 11 0 18446744073709551615)
noncomputable def sF12 : V := .n .u64 (.ar .and .u64 (.var 12 0 18446744073709551615) (.lit 7))
noncomputable def sF13 : V := .n .u64 (.ar .and .u64 (.var 13 0 18446744073709551615) (.lit 18446744073709551613))
noncomputable def sF14 : V := .n .u64 (.ar .and .u64 (.var 14 0 18446744073709551615) (.lit 18446744073709551614))
noncomputable def sF15 : V := .n .u64 (.var 15 0 18446744073709551615)
noncomputable def sF16 : V := .n .u64 (.var 16 0 18446744073709551615)
noncomputable def sF17 : V := .n .u64 (.var 17 0 18446744073709551615)
noncomputable def sF18 : V := .n .u64 (.ar .and .u64 (.var 18 0 18446744073709551615) (.lit 7))
noncomputable def sF19 : V := .n .u64 (.ite (.ite (.eq (.ar .shr .u64 (.var 19 0 18446744073709551615) (.lit 60)) (.lit 0)) (.lit 1) (.eq (.ar .shr .u64 (.var 19 0 18446744073709551615) (.lit 60)) (.lit 8))) (.var 19 0 18446744073709551615) (.lit 0))
noncomputable def sF20 : V := .n .u64 (.var 20 0 18446744073709551615)
noncomputable def sF21 : V := .n .u64 (.var 21 0 18446744073709551615)
noncomputable def sF22 : V := .n .u64 (.ar .andNot .u64 (.ar .or .u64 (.ar .or .u64 (.ar .or .u64 (.ar .or .u64 (.ar .or .u64 (.ar .or .u64 (.ar .or .u64 (.ite (.eq (.ar .and .u64 (.ar .andNot .u64 (.ar .and .u64 (.var 22 0 18446744073709551615) (.lit 255)) (.lit 96)) (.lit 1)) (.lit 0)) (.ar .andNot .u64 (.ar .andNot .u64 (.ar .and .u64 (.var 22 0 18446744073709551615) (.lit 255)) (.lit 96)) (.lit 2)) (.ar .andNot .u64 (.ar .and .u64 (.var 22 0 18446744073709551615) (.lit 255)) (.lit 96))) (.ar .shl .u64 (.ite (.eq (.ar .and .u64 (.ar .andNot .u64 (.ar .and .u64 (.ar .shr .u64 (.var 22 0 18446744073709551615) (.lit 8)) (.lit 255)) (.lit 96)) (.lit 1)) (.lit 0)) (.ar .andNot .u64 (.ar .andNot .u64 (.ar .and .u64 (.ar .shr .u64 (.var 22 0 18446744073709551615) (.lit 8)) (.lit 255)) (.lit 96)) (.lit 2)) (.ar .andNot .u64 (.ar .and .u64 (.ar .shr .u64 (.var 22 0 18446744073709551615) (.lit 8)) (.lit 255)) (.lit 96))) (.lit 8))) (.ar .shl .u64 (.ite (.eq (.ar .and .u64 (.ar .andNot .u64 (.ar .and .u64 (.ar .shr .u64 (.var 22 0 18446744073709551615) (.lit 16)) (.lit 255)) (.lit 96)) (.lit 1)) (.lit 0)) (.ar .andNot .u64 (.ar .andNot .u64 (.ar .and .u64 (.ar .shr .u64 (.var 22 0 18446744073709551615) (.lit 16)) (.lit 255)) (.lit 96)) (.lit 2)) (.ar .andNot .u64 (.ar .and .u64 (.ar .shr .u64 (.var 22 0 18446744073709551615) (.lit 16)) (.lit 255)) (.lit 96))) (.lit 16))) (.ar .shl .u64 (.ite (.eq (.ar .and .u64 (.ar .andNot .u64 (.ar .and .u64 (.ar .shr .u64 (.var 22 0 18446744073709551615) (.lit 24)) (.lit 255)) (.lit 96)) (.lit 1)) (.lit 0)) (.ar .andNot .u64 (.ar .andNot .u64 (.ar .and .u64 (.ar .shr .u64 (.var 22 0 18446744073709551615) (.lit 24)) (.lit 255)) (.lit 96)) (.lit 2)) (.ar .andNot .u64 (.ar .and .u64 (.ar .shr .u64 (.var 22 0 18446744073709551615) (.lit 24)) (.lit 255)) (.lit 96))) (.lit 24))) (.ar .shl .u64 (.ite (.eq (.ar .and .u64 (.ar .andNot .u64 (.ar .and .u64 (.ar .shr .u64 (.var 22 0 18446744073709551615) (.lit 32)) (.lit 255)) (.lit 96)) (.lit 1)) (.lit 0)) (.ar .andNot .u64 (.ar .andNot .u64 (.ar .and .u64 (.ar .shr .u64 (.var 22 0 18446744073709551615) (.lit 32)) (.lit 255)) (.lit 96)) (.lit 2)) (.ar .andNot .u64 (.ar .and .u64 (.ar .shr .u64 (.var 22 0 18446744073709551615) (.lit 32)) (.lit 255)) (.lit 96))) (.lit 32))) (.ar .shl .u64 (.ite (.eq (.ar .and .u64 (.ar .andNot .u64 (.ar .and .u64 (.ar .shr .u64 (.var 22 0 18446744073709551615) (.lit 40)) (.lit 255)) (.lit 96)) (.lit 1)) (.lit 0)) (.ar .andNot .u64 (.ar .andNot .u64 (.ar .and .u64 (.ar .shr .u64 (.var 22 0 18446744073709551615) (.lit 40)) (.lit 255)) (.lit 96)) (.lit 2)) (.ar .andNot .u64 (.ar .and .u64 (.ar .shr .u64 (.var 22 0 18446744073709551615) (.lit 40)) (.lit 255)) (.lit 96))) (.lit 40))) (.ar .shl .u64 (.ite (.eq (.ar .and .u64 (.ar .andNot .u64 (.ar .and .u64 (.ar .shr .u64 (.var 22 0 18446744073709551615) (.lit 48)) (.lit 255)) (.lit 96)) (.lit 1)) (.lit 0)) (.ar .andNot .u64 (.ar .andNot .u64 (.ar .and .u64 (.ar .shr .u64 (.var 22 0 18446744073709551615) (.lit 48)) (.lit 255)) (.lit 96)) (.lit 2)) (.ar .andNot .u64 (.ar .and .u64 (.ar .shr .u64 (.var 22 0 18446744073709551615) (.lit 48)) (.lit 255)) (.lit 96))) (.lit 48))) (.ar .shl .u64 (.ite (.eq (.ar .and .u64 (.ar .andNot .u64 (.ar .shr .u64 (.var 22 0 18446744073709551615) (.lit 56)) (.lit 96)) (.lit 1)) (.lit 0)) (.ar .andNot .u64 (.ar .andNot .u64 (.ar .shr .u64 (.var 22 0 18446744073709551615) (.lit 56)) (.lit 96)) (.lit 2)) (.ar .andNot .u64 (.ar .shr .u64 (.var 22 0 18446744073709551615) (.lit 56)) (.lit 96))) (.lit 56))) (.lit 0))
noncomputable def sF23 : V := .n .u64 (.ar .and .u64 (.var 23 0 18446744073709551615) (.lit 18014398509481983))
noncomputable def sF24 : V := .n .u64 (.ar .and .u64 (.var 24 0 18446744073709551615) (.lit 18014398509481983))
noncomputable def sF25 : V := .n .u64 (.ar .and .u64 (.var 25 0 18446744073709551615) (.lit 18014398509481983))
noncomputable def sF26 : V := .n .u64 (.ar .and .u64 (.var 26 0 18446744073709551615) (.lit 18014398509481983))
noncomputable def sF27 : V := .n .u64 (.ar .and .u64 (.var 27 0 18446744073709551615) (.lit 18014398509481983))
noncomputable def sF28 : V := .n .u64 (.ar .and .u64 (.var 28 0 18446744073709551615) (.lit 18014398509481983))
noncomputable def sF29 : V := .n .u64 (.ar .and .u64 (.var 29 0 18446744073709551615) (.lit 18014398509481983))
noncomputable def sF30 : V := .n .u64 (.ar .and .u64 (.var 30 0 18446744073709551615) (.lit 18014398509481983))
end Go.Proofs.YtffhbmkpcenkoaaDoor.Sx
