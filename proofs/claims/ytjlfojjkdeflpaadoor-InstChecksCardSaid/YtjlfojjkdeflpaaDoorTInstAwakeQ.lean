/- InstAwake: tables. -/
import Derived.Test.YtjlfojjkdeflpaaDoorUd
set_option linter.unusedVariables false
set_option linter.unusedSimpArgs false
namespace Go.Proofs.YtjlfojjkdeflpaaDoor.Sx
open Go
set_option maxRecDepth 100000
def tabs : List Tab := [{ g := 0, k := .u8, ns := [5, 6, 0, 0, 7, 8, 9, 10] },
  { g := 1, k := .u8, ns := [11, 12, 13, 14, 15, 16, 17, 0] },
  { g := 2, k := .u8, ns := [18, 19, 20, 21, 0, 0, 0, 0] },
  { g := 4, k := .u8, ns := [22, 0, 23, 24, 25, 0, 26, 27] },
  { g := 5, k := .u8, ns := [0, 28, 0, 0, 0, 29, 0, 0] },
  { g := 6, k := .u8, ns := [0, 0, 0, 0, 0, 30, 0, 0] },
  { g := 7, k := .u8, ns := [31, 33, 34, 35, 36, 37, 39, 40] },
  { g := 9, k := .u8, ns := [32, 0, 0, 0, 0, 38, 0, 0] },
  { g := 8, k := .u8, ns := [54, 55, 56, 57, 58, 59, 60, 61] },
  { g := 10, k := .u8, ns := [0, 42, 0, 0, 0, 43, 0, 0] },
  { g := 11, k := .u8, ns := [0, 0, 0, 0, 0, 44, 0, 0] },
  { g := 12, k := .u8, ns := [45, 47, 0, 0, 0, 48, 0, 0] },
  { g := 14, k := .u8, ns := [46, 0, 0, 0, 0, 49, 0, 0] },
  { g := 13, k := .u8, ns := [62, 0, 0, 0, 63, 64, 65, 66] },
  { g := 3, k := .u8, ns := [50, 51, 0, 0, 0, 0, 0, 0] },
  { g := 15, k := .u8, ns := [0, 89, 90, 91, 0, 92, 93, 94] },
  { g := 16, k := .u8, ns := [70, 69, 67, 68, 71, 0, 0, 0, 73, 0, 0, 0, 72, 0, 0, 0, 74, 0, 0, 0, 75, 0, 0, 0, 76, 0, 0, 0, 77, 0, 0, 0] }]
end Go.Proofs.YtjlfojjkdeflpaaDoor.Sx
