/- InstChecks: a part of its cases. -/
import Derived.Test.YtjlfojjkdeflpaaDoorUInstChecks
set_option linter.unusedVariables false
set_option linter.unusedSimpArgs false
namespace Go.Proofs.YtjlfojjkdeflpaaDoor.Sx
open Go
noncomputable section
set_option maxRecDepth 100000
def places0 : List Sx.Place := []
def lawPc0 : Pc := [((.eq (.var 0 0 255) (.lit 0)), true), ((.lt (.var 0 0 255) (.lit 6)), true)]
def exc0 : List Pc := []
theorem start0_yes : startYes Tryd.prog (tabGlob tabs) lawEv 2130220 lawBody lawFn 17 100000 places0 exc0 (psV lawPs 0) (stTab tabs lawPc0) = true := by kernel_rfl
theorem places0_yes : ∀ p ∈ places0, placeYes Tryd.prog (tabGlob tabs) lawEv 2130220 lawBody lawFn 17 100000 places0 exc0 p = true :=
  (fun p h => by cases h)
theorem places0_paths : ∀ p ∈ places0, pathsOk p.stk :=
  (fun p h => by cases h)
theorem exc0_no : ∀ q ∈ exc0, ∀ i, ¬ Holds i q := by intro q hq; cases hq
def places16 : List Sx.Place := []
def lawPc16 : Pc := [((.eq (.var 0 0 255) (.lit 15)), true), ((.eq (.var 0 0 255) (.lit 14)), false), ((.eq (.var 0 0 255) (.lit 13)), false), ((.eq (.var 0 0 255) (.lit 12)), false), ((.lt (.var 0 0 255) (.lit 18)), true), ((.lt (.var 0 0 255) (.lit 12)), false), ((.lt (.var 0 0 255) (.lit 6)), false)]
def exc16 : List Pc := []
theorem start16_yes : startYes Tryd.prog (tabGlob tabs) lawEv 2130220 lawBody lawFn 17 100000 places16 exc16 (psV lawPs 0) (stTab tabs lawPc16) = true := by kernel_rfl
theorem places16_yes : ∀ p ∈ places16, placeYes Tryd.prog (tabGlob tabs) lawEv 2130220 lawBody lawFn 17 100000 places16 exc16 p = true :=
  (fun p h => by cases h)
theorem places16_paths : ∀ p ∈ places16, pathsOk p.stk :=
  (fun p h => by cases h)
theorem exc16_no : ∀ q ∈ exc16, ∀ i, ¬ Holds i q := by intro q hq; cases hq
def places32 : List Sx.Place := []
def lawPc32 : Pc := [((.eq (.var 0 0 255) (.lit 28)), true), ((.eq (.var 0 0 255) (.lit 27)), false), ((.eq (.var 0 0 255) (.lit 26)), false), ((.eq (.var 0 0 255) (.lit 25)), false), ((.eq (.var 0 0 255) (.lit 24)), false), ((.lt (.var 0 0 255) (.lit 30)), true), ((.lt (.var 0 0 255) (.lit 24)), false), ((.lt (.var 0 0 255) (.lit 18)), false), ((.lt (.var 0 0 255) (.lit 12)), false), ((.lt (.var 0 0 255) (.lit 6)), false)]
def exc32 : List Pc := []
theorem start32_yes : startYes Tryd.prog (tabGlob tabs) lawEv 2130220 lawBody lawFn 17 100000 places32 exc32 (psV lawPs 0) (stTab tabs lawPc32) = true := by kernel_rfl
theorem places32_yes : ∀ p ∈ places32, placeYes Tryd.prog (tabGlob tabs) lawEv 2130220 lawBody lawFn 17 100000 places32 exc32 p = true :=
  (fun p h => by cases h)
theorem places32_paths : ∀ p ∈ places32, pathsOk p.stk :=
  (fun p h => by cases h)
theorem exc32_no : ∀ q ∈ exc32, ∀ i, ¬ Holds i q := by intro q hq; cases hq
def places48 : List Sx.Place := []
def lawPc48 : Pc := [((.lt (.var 4 (.negSucc 9223372036854775807) 9223372036854775807) (.lit 0)), true), ((.eq (.var 0 0 255) (.lit 34)), false), ((.eq (.var 0 0 255) (.lit 33)), false), ((.eq (.var 0 0 255) (.lit 32)), false), ((.eq (.var 0 0 255) (.lit 31)), false), ((.eq (.var 0 0 255) (.lit 30)), false), ((.lt (.var 0 0 255) (.lit 36)), true), ((.lt (.var 0 0 255) (.lit 30)), false), ((.lt (.var 0 0 255) (.lit 24)), false), ((.lt (.var 0 0 255) (.lit 18)), false), ((.lt (.var 0 0 255) (.lit 12)), false), ((.lt (.var 0 0 255) (.lit 6)), false)]
def exc48 : List Pc := []
theorem start48_yes : startYes Tryd.prog (tabGlob tabs) lawEv 2130220 lawBody lawFn 17 100000 places48 exc48 (psV lawPs 0) (stTab tabs lawPc48) = true := by kernel_rfl
theorem places48_yes : ∀ p ∈ places48, placeYes Tryd.prog (tabGlob tabs) lawEv 2130220 lawBody lawFn 17 100000 places48 exc48 p = true :=
  (fun p h => by cases h)
theorem places48_paths : ∀ p ∈ places48, pathsOk p.stk :=
  (fun p h => by cases h)
theorem exc48_no : ∀ q ∈ exc48, ∀ i, ¬ Holds i q := by intro q hq; cases hq
def places64 : List Sx.Place := []
def lawPc64 : Pc := [((.eq (.var 4 (.negSucc 9223372036854775807) 9223372036854775807) (.lit 0)), true), ((.lt (.var 4 (.negSucc 9223372036854775807) 9223372036854775807) (.lit 0)), false), ((.eq (.var 0 0 255) (.lit 40)), true), ((.eq (.var 0 0 255) (.lit 39)), false), ((.eq (.var 0 0 255) (.lit 38)), false), ((.eq (.var 0 0 255) (.lit 37)), false), ((.eq (.var 0 0 255) (.lit 36)), false), ((.lt (.var 0 0 255) (.lit 42)), true), ((.lt (.var 0 0 255) (.lit 36)), false), ((.lt (.var 0 0 255) (.lit 30)), false), ((.lt (.var 0 0 255) (.lit 24)), false), ((.lt (.var 0 0 255) (.lit 18)), false), ((.lt (.var 0 0 255) (.lit 12)), false), ((.lt (.var 0 0 255) (.lit 6)), false)]
def exc64 : List Pc := []
theorem start64_yes : startYes Tryd.prog (tabGlob tabs) lawEv 2130220 lawBody lawFn 17 100000 places64 exc64 (psV lawPs 0) (stTab tabs lawPc64) = true := by kernel_rfl
theorem places64_yes : ∀ p ∈ places64, placeYes Tryd.prog (tabGlob tabs) lawEv 2130220 lawBody lawFn 17 100000 places64 exc64 p = true :=
  (fun p h => by cases h)
theorem places64_paths : ∀ p ∈ places64, pathsOk p.stk :=
  (fun p h => by cases h)
theorem exc64_no : ∀ q ∈ exc64, ∀ i, ¬ Holds i q := by intro q hq; cases hq
def places80 : List Sx.Place := []
def lawPc80 : Pc := [((.eq (.var 4 (.negSucc 9223372036854775807) 9223372036854775807) (.lit 0)), true), ((.lt (.var 4 (.negSucc 9223372036854775807) 9223372036854775807) (.lit 0)), false), ((.eq (.var 0 0 255) (.lit 48)), true), ((.lt (.var 0 0 255) (.lit 54)), true), ((.lt (.var 0 0 255) (.lit 48)), false), ((.lt (.var 0 0 255) (.lit 42)), false), ((.lt (.var 0 0 255) (.lit 36)), false), ((.lt (.var 0 0 255) (.lit 30)), false), ((.lt (.var 0 0 255) (.lit 24)), false), ((.lt (.var 0 0 255) (.lit 18)), false), ((.lt (.var 0 0 255) (.lit 12)), false), ((.lt (.var 0 0 255) (.lit 6)), false)]
def exc80 : List Pc := []
theorem start80_yes : startYes Tryd.prog (tabGlob tabs) lawEv 2130220 lawBody lawFn 17 100000 places80 exc80 (psV lawPs 0) (stTab tabs lawPc80) = true := by kernel_rfl
theorem places80_yes : ∀ p ∈ places80, placeYes Tryd.prog (tabGlob tabs) lawEv 2130220 lawBody lawFn 17 100000 places80 exc80 p = true :=
  (fun p h => by cases h)
theorem places80_paths : ∀ p ∈ places80, pathsOk p.stk :=
  (fun p h => by cases h)
theorem exc80_no : ∀ q ∈ exc80, ∀ i, ¬ Holds i q := by intro q hq; cases hq
def places96 : List Sx.Place := []
def lawPc96 : Pc := [((.eq (.var 4 (.negSucc 9223372036854775807) 9223372036854775807) (.lit 0)), false), ((.lt (.var 4 (.negSucc 9223372036854775807) 9223372036854775807) (.lit 0)), false), ((.eq (.var 0 0 255) (.lit 52)), false), ((.eq (.var 0 0 255) (.lit 51)), false), ((.eq (.var 0 0 255) (.lit 50)), false), ((.eq (.var 0 0 255) (.lit 49)), false), ((.eq (.var 0 0 255) (.lit 48)), false), ((.lt (.var 0 0 255) (.lit 54)), true), ((.lt (.var 0 0 255) (.lit 48)), false), ((.lt (.var 0 0 255) (.lit 42)), false), ((.lt (.var 0 0 255) (.lit 36)), false), ((.lt (.var 0 0 255) (.lit 30)), false), ((.lt (.var 0 0 255) (.lit 24)), false), ((.lt (.var 0 0 255) (.lit 18)), false), ((.lt (.var 0 0 255) (.lit 12)), false), ((.lt (.var 0 0 255) (.lit 6)), false)]
def exc96 : List Pc := []
theorem start96_yes : startYes Tryd.prog (tabGlob tabs) lawEv 2130220 lawBody lawFn 17 100000 places96 exc96 (psV lawPs 0) (stTab tabs lawPc96) = true := by kernel_rfl
theorem places96_yes : ∀ p ∈ places96, placeYes Tryd.prog (tabGlob tabs) lawEv 2130220 lawBody lawFn 17 100000 places96 exc96 p = true :=
  (fun p h => by cases h)
theorem places96_paths : ∀ p ∈ places96, pathsOk p.stk :=
  (fun p h => by cases h)
theorem exc96_no : ∀ q ∈ exc96, ∀ i, ¬ Holds i q := by intro q hq; cases hq
def places112 : List Sx.Place := []
def lawPc112 : Pc := [((.lt (.var 4 (.negSucc 9223372036854775807) 9223372036854775807) (.lit 0)), true), ((.eq (.var 0 0 255) (.lit 58)), false), ((.eq (.var 0 0 255) (.lit 57)), false), ((.eq (.var 0 0 255) (.lit 56)), false), ((.eq (.var 0 0 255) (.lit 55)), false), ((.eq (.var 0 0 255) (.lit 54)), false), ((.lt (.var 0 0 255) (.lit 60)), true), ((.lt (.var 0 0 255) (.lit 54)), false), ((.lt (.var 0 0 255) (.lit 48)), false), ((.lt (.var 0 0 255) (.lit 42)), false), ((.lt (.var 0 0 255) (.lit 36)), false), ((.lt (.var 0 0 255) (.lit 30)), false), ((.lt (.var 0 0 255) (.lit 24)), false), ((.lt (.var 0 0 255) (.lit 18)), false), ((.lt (.var 0 0 255) (.lit 12)), false), ((.lt (.var 0 0 255) (.lit 6)), false)]
def exc112 : List Pc := []
theorem start112_yes : startYes Tryd.prog (tabGlob tabs) lawEv 2130220 lawBody lawFn 17 100000 places112 exc112 (psV lawPs 0) (stTab tabs lawPc112) = true := by kernel_rfl
theorem places112_yes : ∀ p ∈ places112, placeYes Tryd.prog (tabGlob tabs) lawEv 2130220 lawBody lawFn 17 100000 places112 exc112 p = true :=
  (fun p h => by cases h)
theorem places112_paths : ∀ p ∈ places112, pathsOk p.stk :=
  (fun p h => by cases h)
theorem exc112_no : ∀ q ∈ exc112, ∀ i, ¬ Holds i q := by intro q hq; cases hq
def places128 : List Sx.Place := []
def lawPc128 : Pc := [((.eq (.var 4 (.negSucc 9223372036854775807) 9223372036854775807) (.lit 0)), true), ((.lt (.var 4 (.negSucc 9223372036854775807) 9223372036854775807) (.lit 0)), false), ((.eq (.var 0 0 255) (.lit 64)), true), ((.eq (.var 0 0 255) (.lit 63)), false), ((.eq (.var 0 0 255) (.lit 62)), false), ((.eq (.var 0 0 255) (.lit 61)), false), ((.eq (.var 0 0 255) (.lit 60)), false), ((.lt (.var 0 0 255) (.lit 66)), true), ((.lt (.var 0 0 255) (.lit 60)), false), ((.lt (.var 0 0 255) (.lit 54)), false), ((.lt (.var 0 0 255) (.lit 48)), false), ((.lt (.var 0 0 255) (.lit 42)), false), ((.lt (.var 0 0 255) (.lit 36)), false), ((.lt (.var 0 0 255) (.lit 30)), false), ((.lt (.var 0 0 255) (.lit 24)), false), ((.lt (.var 0 0 255) (.lit 18)), false), ((.lt (.var 0 0 255) (.lit 12)), false), ((.lt (.var 0 0 255) (.lit 6)), false)]
def exc128 : List Pc := []
theorem start128_yes : startYes Tryd.prog (tabGlob tabs) lawEv 2130220 lawBody lawFn 17 100000 places128 exc128 (psV lawPs 0) (stTab tabs lawPc128) = true := by kernel_rfl
theorem places128_yes : ∀ p ∈ places128, placeYes Tryd.prog (tabGlob tabs) lawEv 2130220 lawBody lawFn 17 100000 places128 exc128 p = true :=
  (fun p h => by cases h)
theorem places128_paths : ∀ p ∈ places128, pathsOk p.stk :=
  (fun p h => by cases h)
theorem exc128_no : ∀ q ∈ exc128, ∀ i, ¬ Holds i q := by intro q hq; cases hq
def places144 : List Sx.Place := []
def lawPc144 : Pc := [((.eq (.var 4 (.negSucc 9223372036854775807) 9223372036854775807) (.lit 0)), false), ((.lt (.var 4 (.negSucc 9223372036854775807) 9223372036854775807) (.lit 0)), false), ((.eq (.var 0 0 255) (.lit 69)), true), ((.eq (.var 0 0 255) (.lit 68)), false), ((.eq (.var 0 0 255) (.lit 67)), false), ((.eq (.var 0 0 255) (.lit 66)), false), ((.lt (.var 0 0 255) (.lit 72)), true), ((.lt (.var 0 0 255) (.lit 66)), false), ((.lt (.var 0 0 255) (.lit 60)), false), ((.lt (.var 0 0 255) (.lit 54)), false), ((.lt (.var 0 0 255) (.lit 48)), false), ((.lt (.var 0 0 255) (.lit 42)), false), ((.lt (.var 0 0 255) (.lit 36)), false), ((.lt (.var 0 0 255) (.lit 30)), false), ((.lt (.var 0 0 255) (.lit 24)), false), ((.lt (.var 0 0 255) (.lit 18)), false), ((.lt (.var 0 0 255) (.lit 12)), false), ((.lt (.var 0 0 255) (.lit 6)), false)]
def exc144 : List Pc := []
theorem start144_yes : startYes Tryd.prog (tabGlob tabs) lawEv 2130220 lawBody lawFn 17 100000 places144 exc144 (psV lawPs 0) (stTab tabs lawPc144) = true := by kernel_rfl
theorem places144_yes : ∀ p ∈ places144, placeYes Tryd.prog (tabGlob tabs) lawEv 2130220 lawBody lawFn 17 100000 places144 exc144 p = true :=
  (fun p h => by cases h)
theorem places144_paths : ∀ p ∈ places144, pathsOk p.stk :=
  (fun p h => by cases h)
theorem exc144_no : ∀ q ∈ exc144, ∀ i, ¬ Holds i q := by intro q hq; cases hq
def places160 : List Sx.Place := []
def lawPc160 : Pc := [((.lt (.var 4 (.negSucc 9223372036854775807) 9223372036854775807) (.lit 0)), true), ((.eq (.var 0 0 255) (.lit 75)), true), ((.eq (.var 0 0 255) (.lit 74)), false), ((.eq (.var 0 0 255) (.lit 73)), false), ((.eq (.var 0 0 255) (.lit 72)), false), ((.lt (.var 0 0 255) (.lit 78)), true), ((.lt (.var 0 0 255) (.lit 72)), false), ((.lt (.var 0 0 255) (.lit 66)), false), ((.lt (.var 0 0 255) (.lit 60)), false), ((.lt (.var 0 0 255) (.lit 54)), false), ((.lt (.var 0 0 255) (.lit 48)), false), ((.lt (.var 0 0 255) (.lit 42)), false), ((.lt (.var 0 0 255) (.lit 36)), false), ((.lt (.var 0 0 255) (.lit 30)), false), ((.lt (.var 0 0 255) (.lit 24)), false), ((.lt (.var 0 0 255) (.lit 18)), false), ((.lt (.var 0 0 255) (.lit 12)), false), ((.lt (.var 0 0 255) (.lit 6)), false)]
def exc160 : List Pc := []
theorem start160_yes : startYes Tryd.prog (tabGlob tabs) lawEv 2130220 lawBody lawFn 17 100000 places160 exc160 (psV lawPs 0) (stTab tabs lawPc160) = true := by kernel_rfl
theorem places160_yes : ∀ p ∈ places160, placeYes Tryd.prog (tabGlob tabs) lawEv 2130220 lawBody lawFn 17 100000 places160 exc160 p = true :=
  (fun p h => by cases h)
theorem places160_paths : ∀ p ∈ places160, pathsOk p.stk :=
  (fun p h => by cases h)
theorem exc160_no : ∀ q ∈ exc160, ∀ i, ¬ Holds i q := by intro q hq; cases hq
def places176 : List Sx.Place := []
def lawPc176 : Pc := [((.eq (.var 4 (.negSucc 9223372036854775807) 9223372036854775807) (.lit 0)), true), ((.lt (.var 4 (.negSucc 9223372036854775807) 9223372036854775807) (.lit 0)), false), ((.eq (.var 0 0 255) (.lit 80)), true), ((.eq (.var 0 0 255) (.lit 79)), false), ((.eq (.var 0 0 255) (.lit 78)), false), ((.lt (.var 0 0 255) (.lit 84)), true), ((.lt (.var 0 0 255) (.lit 78)), false), ((.lt (.var 0 0 255) (.lit 72)), false), ((.lt (.var 0 0 255) (.lit 66)), false), ((.lt (.var 0 0 255) (.lit 60)), false), ((.lt (.var 0 0 255) (.lit 54)), false), ((.lt (.var 0 0 255) (.lit 48)), false), ((.lt (.var 0 0 255) (.lit 42)), false), ((.lt (.var 0 0 255) (.lit 36)), false), ((.lt (.var 0 0 255) (.lit 30)), false), ((.lt (.var 0 0 255) (.lit 24)), false), ((.lt (.var 0 0 255) (.lit 18)), false), ((.lt (.var 0 0 255) (.lit 12)), false), ((.lt (.var 0 0 255) (.lit 6)), false)]
def exc176 : List Pc := []
theorem start176_yes : startYes Tryd.prog (tabGlob tabs) lawEv 2130220 lawBody lawFn 17 100000 places176 exc176 (psV lawPs 0) (stTab tabs lawPc176) = true := by kernel_rfl
theorem places176_yes : ∀ p ∈ places176, placeYes Tryd.prog (tabGlob tabs) lawEv 2130220 lawBody lawFn 17 100000 places176 exc176 p = true :=
  (fun p h => by cases h)
theorem places176_paths : ∀ p ∈ places176, pathsOk p.stk :=
  (fun p h => by cases h)
theorem exc176_no : ∀ q ∈ exc176, ∀ i, ¬ Holds i q := by intro q hq; cases hq
def places192 : List Sx.Place := []
def lawPc192 : Pc := [((.eq (.var 4 (.negSucc 9223372036854775807) 9223372036854775807) (.lit 0)), false), ((.lt (.var 4 (.negSucc 9223372036854775807) 9223372036854775807) (.lit 0)), false), ((.eq (.var 0 0 255) (.lit 85)), true), ((.eq (.var 0 0 255) (.lit 84)), false), ((.lt (.var 0 0 255) (.lit 90)), true), ((.lt (.var 0 0 255) (.lit 84)), false), ((.lt (.var 0 0 255) (.lit 78)), false), ((.lt (.var 0 0 255) (.lit 72)), false), ((.lt (.var 0 0 255) (.lit 66)), false), ((.lt (.var 0 0 255) (.lit 60)), false), ((.lt (.var 0 0 255) (.lit 54)), false), ((.lt (.var 0 0 255) (.lit 48)), false), ((.lt (.var 0 0 255) (.lit 42)), false), ((.lt (.var 0 0 255) (.lit 36)), false), ((.lt (.var 0 0 255) (.lit 30)), false), ((.lt (.var 0 0 255) (.lit 24)), false), ((.lt (.var 0 0 255) (.lit 18)), false), ((.lt (.var 0 0 255) (.lit 12)), false), ((.lt (.var 0 0 255) (.lit 6)), false)]
def exc192 : List Pc := []
theorem start192_yes : startYes Tryd.prog (tabGlob tabs) lawEv 2130220 lawBody lawFn 17 100000 places192 exc192 (psV lawPs 0) (stTab tabs lawPc192) = true := by kernel_rfl
theorem places192_yes : ∀ p ∈ places192, placeYes Tryd.prog (tabGlob tabs) lawEv 2130220 lawBody lawFn 17 100000 places192 exc192 p = true :=
  (fun p h => by cases h)
theorem places192_paths : ∀ p ∈ places192, pathsOk p.stk :=
  (fun p h => by cases h)
theorem exc192_no : ∀ q ∈ exc192, ∀ i, ¬ Holds i q := by intro q hq; cases hq
def places208 : List Sx.Place := []
def lawPc208 : Pc := [((.lt (.var 4 (.negSucc 9223372036854775807) 9223372036854775807) (.lit 0)), true), ((.eq (.var 0 0 255) (.lit 91)), true), ((.eq (.var 0 0 255) (.lit 90)), false), ((.lt (.var 0 0 255) (.lit 96)), true), ((.lt (.var 0 0 255) (.lit 90)), false), ((.lt (.var 0 0 255) (.lit 84)), false), ((.lt (.var 0 0 255) (.lit 78)), false), ((.lt (.var 0 0 255) (.lit 72)), false), ((.lt (.var 0 0 255) (.lit 66)), false), ((.lt (.var 0 0 255) (.lit 60)), false), ((.lt (.var 0 0 255) (.lit 54)), false), ((.lt (.var 0 0 255) (.lit 48)), false), ((.lt (.var 0 0 255) (.lit 42)), false), ((.lt (.var 0 0 255) (.lit 36)), false), ((.lt (.var 0 0 255) (.lit 30)), false), ((.lt (.var 0 0 255) (.lit 24)), false), ((.lt (.var 0 0 255) (.lit 18)), false), ((.lt (.var 0 0 255) (.lit 12)), false), ((.lt (.var 0 0 255) (.lit 6)), false)]
def exc208 : List Pc := []
theorem start208_yes : startYes Tryd.prog (tabGlob tabs) lawEv 2130220 lawBody lawFn 17 100000 places208 exc208 (psV lawPs 0) (stTab tabs lawPc208) = true := by kernel_rfl
theorem places208_yes : ∀ p ∈ places208, placeYes Tryd.prog (tabGlob tabs) lawEv 2130220 lawBody lawFn 17 100000 places208 exc208 p = true :=
  (fun p h => by cases h)
theorem places208_paths : ∀ p ∈ places208, pathsOk p.stk :=
  (fun p h => by cases h)
theorem exc208_no : ∀ q ∈ exc208, ∀ i, ¬ Holds i q := by intro q hq; cases hq
def places224 : List Sx.Place := []
def lawPc224 : Pc := [((.eq (.var 4 (.negSucc 9223372036854775807) 9223372036854775807) (.lit 0)), true), ((.lt (.var 4 (.negSucc 9223372036854775807) 9223372036854775807) (.lit 0)), false), ((.eq (.var 0 0 255) (.lit 97)), false), ((.eq (.var 0 0 255) (.lit 96)), false), ((.lt (.var 0 0 255) (.lit 99)), true), ((.lt (.var 0 0 255) (.lit 96)), false), ((.lt (.var 0 0 255) (.lit 90)), false), ((.lt (.var 0 0 255) (.lit 84)), false), ((.lt (.var 0 0 255) (.lit 78)), false), ((.lt (.var 0 0 255) (.lit 72)), false), ((.lt (.var 0 0 255) (.lit 66)), false), ((.lt (.var 0 0 255) (.lit 60)), false), ((.lt (.var 0 0 255) (.lit 54)), false), ((.lt (.var 0 0 255) (.lit 48)), false), ((.lt (.var 0 0 255) (.lit 42)), false), ((.lt (.var 0 0 255) (.lit 36)), false), ((.lt (.var 0 0 255) (.lit 30)), false), ((.lt (.var 0 0 255) (.lit 24)), false), ((.lt (.var 0 0 255) (.lit 18)), false), ((.lt (.var 0 0 255) (.lit 12)), false), ((.lt (.var 0 0 255) (.lit 6)), false)]
def exc224 : List Pc := []
theorem start224_yes : startYes Tryd.prog (tabGlob tabs) lawEv 2130220 lawBody lawFn 17 100000 places224 exc224 (psV lawPs 0) (stTab tabs lawPc224) = true := by kernel_rfl
theorem places224_yes : ∀ p ∈ places224, placeYes Tryd.prog (tabGlob tabs) lawEv 2130220 lawBody lawFn 17 100000 places224 exc224 p = true :=
  (fun p h => by cases h)
theorem places224_paths : ∀ p ∈ places224, pathsOk p.stk :=
  (fun p h => by cases h)
theorem exc224_no : ∀ q ∈ exc224, ∀ i, ¬ Holds i q := by intro q hq; cases hq
end
end Go.Proofs.YtjlfojjkdeflpaaDoor.Sx
