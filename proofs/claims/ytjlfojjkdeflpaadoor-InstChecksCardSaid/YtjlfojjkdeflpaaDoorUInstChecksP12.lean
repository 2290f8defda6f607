/- InstChecks: a part of its cases. -/
import Derived.Test.YtjlfojjkdeflpaaDoorUInstChecks
set_option linter.unusedVariables false
set_option linter.unusedSimpArgs false
namespace Go.Proofs.YtjlfojjkdeflpaaDoor.Sx
open Go
noncomputable section
set_option maxRecDepth 100000
def places12 : List Sx.Place := []
def lawPc12 : Pc := [((.lt (.var 1 0 255) (.lit 32)), false), ((.eq (.var 0 0 255) (.lit 10)), false), ((.eq (.var 0 0 255) (.lit 9)), false), ((.eq (.var 0 0 255) (.lit 8)), false), ((.eq (.var 0 0 255) (.lit 7)), false), ((.eq (.var 0 0 255) (.lit 6)), false), ((.lt (.var 0 0 255) (.lit 12)), true), ((.lt (.var 0 0 255) (.lit 6)), false)]
def exc12 : List Pc := []
theorem start12_yes : startYes Tryd.prog (tabGlob tabs) lawEv 2130220 lawBody lawFn 17 100000 places12 exc12 (psV lawPs 0) (stTab tabs lawPc12) = true := by kernel_rfl
theorem places12_yes : ∀ p ∈ places12, placeYes Tryd.prog (tabGlob tabs) lawEv 2130220 lawBody lawFn 17 100000 places12 exc12 p = true :=
  (fun p h => by cases h)
theorem places12_paths : ∀ p ∈ places12, pathsOk p.stk :=
  (fun p h => by cases h)
theorem exc12_no : ∀ q ∈ exc12, ∀ i, ¬ Holds i q := by intro q hq; cases hq
def places28 : List Sx.Place := []
def lawPc28 : Pc := [((.lt (.var 1 0 255) (.lit 32)), true), ((.eq (.var 0 0 255) (.lit 25)), true), ((.eq (.var 0 0 255) (.lit 24)), false), ((.lt (.var 0 0 255) (.lit 30)), true), ((.lt (.var 0 0 255) (.lit 24)), false), ((.lt (.var 0 0 255) (.lit 18)), false), ((.lt (.var 0 0 255) (.lit 12)), false), ((.lt (.var 0 0 255) (.lit 6)), false)]
def exc28 : List Pc := []
theorem start28_yes : startYes Tryd.prog (tabGlob tabs) lawEv 2130220 lawBody lawFn 17 100000 places28 exc28 (psV lawPs 0) (stTab tabs lawPc28) = true := by kernel_rfl
theorem places28_yes : ∀ p ∈ places28, placeYes Tryd.prog (tabGlob tabs) lawEv 2130220 lawBody lawFn 17 100000 places28 exc28 p = true :=
  (fun p h => by cases h)
theorem places28_paths : ∀ p ∈ places28, pathsOk p.stk :=
  (fun p h => by cases h)
theorem exc28_no : ∀ q ∈ exc28, ∀ i, ¬ Holds i q := by intro q hq; cases hq
def places44 : List Sx.Place := []
def lawPc44 : Pc := [((.eq (.var 4 (.negSucc 9223372036854775807) 9223372036854775807) (.lit 0)), false), ((.lt (.var 4 (.negSucc 9223372036854775807) 9223372036854775807) (.lit 0)), false), ((.eq (.var 0 0 255) (.lit 33)), true), ((.eq (.var 0 0 255) (.lit 32)), false), ((.eq (.var 0 0 255) (.lit 31)), false), ((.eq (.var 0 0 255) (.lit 30)), false), ((.lt (.var 0 0 255) (.lit 36)), true), ((.lt (.var 0 0 255) (.lit 30)), false), ((.lt (.var 0 0 255) (.lit 24)), false), ((.lt (.var 0 0 255) (.lit 18)), false), ((.lt (.var 0 0 255) (.lit 12)), false), ((.lt (.var 0 0 255) (.lit 6)), false)]
def exc44 : List Pc := []
theorem start44_yes : startYes Tryd.prog (tabGlob tabs) lawEv 2130220 lawBody lawFn 17 100000 places44 exc44 (psV lawPs 0) (stTab tabs lawPc44) = true := by kernel_rfl
theorem places44_yes : ∀ p ∈ places44, placeYes Tryd.prog (tabGlob tabs) lawEv 2130220 lawBody lawFn 17 100000 places44 exc44 p = true :=
  (fun p h => by cases h)
theorem places44_paths : ∀ p ∈ places44, pathsOk p.stk :=
  (fun p h => by cases h)
theorem exc44_no : ∀ q ∈ exc44, ∀ i, ¬ Holds i q := by intro q hq; cases hq
def places60 : List Sx.Place := []
def lawPc60 : Pc := [((.lt (.var 4 (.negSucc 9223372036854775807) 9223372036854775807) (.lit 0)), true), ((.eq (.var 0 0 255) (.lit 39)), true), ((.eq (.var 0 0 255) (.lit 38)), false), ((.eq (.var 0 0 255) (.lit 37)), false), ((.eq (.var 0 0 255) (.lit 36)), false), ((.lt (.var 0 0 255) (.lit 42)), true), ((.lt (.var 0 0 255) (.lit 36)), false), ((.lt (.var 0 0 255) (.lit 30)), false), ((.lt (.var 0 0 255) (.lit 24)), false), ((.lt (.var 0 0 255) (.lit 18)), false), ((.lt (.var 0 0 255) (.lit 12)), false), ((.lt (.var 0 0 255) (.lit 6)), false)]
def exc60 : List Pc := []
theorem start60_yes : startYes Tryd.prog (tabGlob tabs) lawEv 2130220 lawBody lawFn 17 100000 places60 exc60 (psV lawPs 0) (stTab tabs lawPc60) = true := by kernel_rfl
theorem places60_yes : ∀ p ∈ places60, placeYes Tryd.prog (tabGlob tabs) lawEv 2130220 lawBody lawFn 17 100000 places60 exc60 p = true :=
  (fun p h => by cases h)
theorem places60_paths : ∀ p ∈ places60, pathsOk p.stk :=
  (fun p h => by cases h)
theorem exc60_no : ∀ q ∈ exc60, ∀ i, ¬ Holds i q := by intro q hq; cases hq
def places76 : List Sx.Place := []
def lawPc76 : Pc := [((.lt (.var 4 (.negSucc 9223372036854775807) 9223372036854775807) (.lit 0)), true), ((.eq (.var 0 0 255) (.lit 46)), false), ((.eq (.var 0 0 255) (.lit 45)), false), ((.eq (.var 0 0 255) (.lit 44)), false), ((.eq (.var 0 0 255) (.lit 43)), false), ((.eq (.var 0 0 255) (.lit 42)), false), ((.lt (.var 0 0 255) (.lit 48)), true), ((.lt (.var 0 0 255) (.lit 42)), false), ((.lt (.var 0 0 255) (.lit 36)), false), ((.lt (.var 0 0 255) (.lit 30)), false), ((.lt (.var 0 0 255) (.lit 24)), false), ((.lt (.var 0 0 255) (.lit 18)), false), ((.lt (.var 0 0 255) (.lit 12)), false), ((.lt (.var 0 0 255) (.lit 6)), false)]
def exc76 : List Pc := []
theorem start76_yes : startYes Tryd.prog (tabGlob tabs) lawEv 2130220 lawBody lawFn 17 100000 places76 exc76 (psV lawPs 0) (stTab tabs lawPc76) = true := by kernel_rfl
theorem places76_yes : ∀ p ∈ places76, placeYes Tryd.prog (tabGlob tabs) lawEv 2130220 lawBody lawFn 17 100000 places76 exc76 p = true :=
  (fun p h => by cases h)
theorem places76_paths : ∀ p ∈ places76, pathsOk p.stk :=
  (fun p h => by cases h)
theorem exc76_no : ∀ q ∈ exc76, ∀ i, ¬ Holds i q := by intro q hq; cases hq
def places92 : List Sx.Place := []
def lawPc92 : Pc := [((.eq (.var 4 (.negSucc 9223372036854775807) 9223372036854775807) (.lit 0)), true), ((.lt (.var 4 (.negSucc 9223372036854775807) 9223372036854775807) (.lit 0)), false), ((.eq (.var 0 0 255) (.lit 52)), true), ((.eq (.var 0 0 255) (.lit 51)), false), ((.eq (.var 0 0 255) (.lit 50)), false), ((.eq (.var 0 0 255) (.lit 49)), false), ((.eq (.var 0 0 255) (.lit 48)), false), ((.lt (.var 0 0 255) (.lit 54)), true), ((.lt (.var 0 0 255) (.lit 48)), false), ((.lt (.var 0 0 255) (.lit 42)), false), ((.lt (.var 0 0 255) (.lit 36)), false), ((.lt (.var 0 0 255) (.lit 30)), false), ((.lt (.var 0 0 255) (.lit 24)), false), ((.lt (.var 0 0 255) (.lit 18)), false), ((.lt (.var 0 0 255) (.lit 12)), false), ((.lt (.var 0 0 255) (.lit 6)), false)]
def exc92 : List Pc := []
theorem start92_yes : startYes Tryd.prog (tabGlob tabs) lawEv 2130220 lawBody lawFn 17 100000 places92 exc92 (psV lawPs 0) (stTab tabs lawPc92) = true := by kernel_rfl
theorem places92_yes : ∀ p ∈ places92, placeYes Tryd.prog (tabGlob tabs) lawEv 2130220 lawBody lawFn 17 100000 places92 exc92 p = true :=
  (fun p h => by cases h)
theorem places92_paths : ∀ p ∈ places92, pathsOk p.stk :=
  (fun p h => by cases h)
theorem exc92_no : ∀ q ∈ exc92, ∀ i, ¬ Holds i q := by intro q hq; cases hq
def places108 : List Sx.Place := []
def lawPc108 : Pc := [((.eq (.var 4 (.negSucc 9223372036854775807) 9223372036854775807) (.lit 0)), false), ((.lt (.var 4 (.negSucc 9223372036854775807) 9223372036854775807) (.lit 0)), false), ((.eq (.var 0 0 255) (.lit 57)), true), ((.eq (.var 0 0 255) (.lit 56)), false), ((.eq (.var 0 0 255) (.lit 55)), false), ((.eq (.var 0 0 255) (.lit 54)), false), ((.lt (.var 0 0 255) (.lit 60)), true), ((.lt (.var 0 0 255) (.lit 54)), false), ((.lt (.var 0 0 255) (.lit 48)), false), ((.lt (.var 0 0 255) (.lit 42)), false), ((.lt (.var 0 0 255) (.lit 36)), false), ((.lt (.var 0 0 255) (.lit 30)), false), ((.lt (.var 0 0 255) (.lit 24)), false), ((.lt (.var 0 0 255) (.lit 18)), false), ((.lt (.var 0 0 255) (.lit 12)), false), ((.lt (.var 0 0 255) (.lit 6)), false)]
def exc108 : List Pc := []
theorem start108_yes : startYes Tryd.prog (tabGlob tabs) lawEv 2130220 lawBody lawFn 17 100000 places108 exc108 (psV lawPs 0) (stTab tabs lawPc108) = true := by kernel_rfl
theorem places108_yes : ∀ p ∈ places108, placeYes Tryd.prog (tabGlob tabs) lawEv 2130220 lawBody lawFn 17 100000 places108 exc108 p = true :=
  (fun p h => by cases h)
theorem places108_paths : ∀ p ∈ places108, pathsOk p.stk :=
  (fun p h => by cases h)
theorem exc108_no : ∀ q ∈ exc108, ∀ i, ¬ Holds i q := by intro q hq; cases hq
def places124 : List Sx.Place := []
def lawPc124 : Pc := [((.lt (.var 4 (.negSucc 9223372036854775807) 9223372036854775807) (.lit 0)), true), ((.eq (.var 0 0 255) (.lit 63)), true), ((.eq (.var 0 0 255) (.lit 62)), false), ((.eq (.var 0 0 255) (.lit 61)), false), ((.eq (.var 0 0 255) (.lit 60)), false), ((.lt (.var 0 0 255) (.lit 66)), true), ((.lt (.var 0 0 255) (.lit 60)), false), ((.lt (.var 0 0 255) (.lit 54)), false), ((.lt (.var 0 0 255) (.lit 48)), false), ((.lt (.var 0 0 255) (.lit 42)), false), ((.lt (.var 0 0 255) (.lit 36)), false), ((.lt (.var 0 0 255) (.lit 30)), false), ((.lt (.var 0 0 255) (.lit 24)), false), ((.lt (.var 0 0 255) (.lit 18)), false), ((.lt (.var 0 0 255) (.lit 12)), false), ((.lt (.var 0 0 255) (.lit 6)), false)]
def exc124 : List Pc := []
theorem start124_yes : startYes Tryd.prog (tabGlob tabs) lawEv 2130220 lawBody lawFn 17 100000 places124 exc124 (psV lawPs 0) (stTab tabs lawPc124) = true := by kernel_rfl
theorem places124_yes : ∀ p ∈ places124, placeYes Tryd.prog (tabGlob tabs) lawEv 2130220 lawBody lawFn 17 100000 places124 exc124 p = true :=
  (fun p h => by cases h)
theorem places124_paths : ∀ p ∈ places124, pathsOk p.stk :=
  (fun p h => by cases h)
theorem exc124_no : ∀ q ∈ exc124, ∀ i, ¬ Holds i q := by intro q hq; cases hq
def places140 : List Sx.Place := []
def lawPc140 : Pc := [((.eq (.var 4 (.negSucc 9223372036854775807) 9223372036854775807) (.lit 0)), true), ((.lt (.var 4 (.negSucc 9223372036854775807) 9223372036854775807) (.lit 0)), false), ((.eq (.var 0 0 255) (.lit 68)), true), ((.eq (.var 0 0 255) (.lit 67)), false), ((.eq (.var 0 0 255) (.lit 66)), false), ((.lt (.var 0 0 255) (.lit 72)), true), ((.lt (.var 0 0 255) (.lit 66)), false), ((.lt (.var 0 0 255) (.lit 60)), false), ((.lt (.var 0 0 255) (.lit 54)), false), ((.lt (.var 0 0 255) (.lit 48)), false), ((.lt (.var 0 0 255) (.lit 42)), false), ((.lt (.var 0 0 255) (.lit 36)), false), ((.lt (.var 0 0 255) (.lit 30)), false), ((.lt (.var 0 0 255) (.lit 24)), false), ((.lt (.var 0 0 255) (.lit 18)), false), ((.lt (.var 0 0 255) (.lit 12)), false), ((.lt (.var 0 0 255) (.lit 6)), false)]
def exc140 : List Pc := []
theorem start140_yes : startYes Tryd.prog (tabGlob tabs) lawEv 2130220 lawBody lawFn 17 100000 places140 exc140 (psV lawPs 0) (stTab tabs lawPc140) = true := by kernel_rfl
theorem places140_yes : ∀ p ∈ places140, placeYes Tryd.prog (tabGlob tabs) lawEv 2130220 lawBody lawFn 17 100000 places140 exc140 p = true :=
  (fun p h => by cases h)
theorem places140_paths : ∀ p ∈ places140, pathsOk p.stk :=
  (fun p h => by cases h)
theorem exc140_no : ∀ q ∈ exc140, ∀ i, ¬ Holds i q := by intro q hq; cases hq
def places156 : List Sx.Place := []
def lawPc156 : Pc := [((.eq (.var 4 (.negSucc 9223372036854775807) 9223372036854775807) (.lit 0)), false), ((.lt (.var 4 (.negSucc 9223372036854775807) 9223372036854775807) (.lit 0)), false), ((.eq (.var 0 0 255) (.lit 73)), true), ((.eq (.var 0 0 255) (.lit 72)), false), ((.lt (.var 0 0 255) (.lit 78)), true), ((.lt (.var 0 0 255) (.lit 72)), false), ((.lt (.var 0 0 255) (.lit 66)), false), ((.lt (.var 0 0 255) (.lit 60)), false), ((.lt (.var 0 0 255) (.lit 54)), false), ((.lt (.var 0 0 255) (.lit 48)), false), ((.lt (.var 0 0 255) (.lit 42)), false), ((.lt (.var 0 0 255) (.lit 36)), false), ((.lt (.var 0 0 255) (.lit 30)), false), ((.lt (.var 0 0 255) (.lit 24)), false), ((.lt (.var 0 0 255) (.lit 18)), false), ((.lt (.var 0 0 255) (.lit 12)), false), ((.lt (.var 0 0 255) (.lit 6)), false)]
def exc156 : List Pc := []
theorem start156_yes : startYes Tryd.prog (tabGlob tabs) lawEv 2130220 lawBody lawFn 17 100000 places156 exc156 (psV lawPs 0) (stTab tabs lawPc156) = true := by kernel_rfl
theorem places156_yes : ∀ p ∈ places156, placeYes Tryd.prog (tabGlob tabs) lawEv 2130220 lawBody lawFn 17 100000 places156 exc156 p = true :=
  (fun p h => by cases h)
theorem places156_paths : ∀ p ∈ places156, pathsOk p.stk :=
  (fun p h => by cases h)
theorem exc156_no : ∀ q ∈ exc156, ∀ i, ¬ Holds i q := by intro q hq; cases hq
def places172 : List Sx.Place := []
def lawPc172 : Pc := [((.lt (.var 4 (.negSucc 9223372036854775807) 9223372036854775807) (.lit 0)), true), ((.eq (.var 0 0 255) (.lit 79)), true), ((.eq (.var 0 0 255) (.lit 78)), false), ((.lt (.var 0 0 255) (.lit 84)), true), ((.lt (.var 0 0 255) (.lit 78)), false), ((.lt (.var 0 0 255) (.lit 72)), false), ((.lt (.var 0 0 255) (.lit 66)), false), ((.lt (.var 0 0 255) (.lit 60)), false), ((.lt (.var 0 0 255) (.lit 54)), false), ((.lt (.var 0 0 255) (.lit 48)), false), ((.lt (.var 0 0 255) (.lit 42)), false), ((.lt (.var 0 0 255) (.lit 36)), false), ((.lt (.var 0 0 255) (.lit 30)), false), ((.lt (.var 0 0 255) (.lit 24)), false), ((.lt (.var 0 0 255) (.lit 18)), false), ((.lt (.var 0 0 255) (.lit 12)), false), ((.lt (.var 0 0 255) (.lit 6)), false)]
def exc172 : List Pc := []
theorem start172_yes : startYes Tryd.prog (tabGlob tabs) lawEv 2130220 lawBody lawFn 17 100000 places172 exc172 (psV lawPs 0) (stTab tabs lawPc172) = true := by kernel_rfl
theorem places172_yes : ∀ p ∈ places172, placeYes Tryd.prog (tabGlob tabs) lawEv 2130220 lawBody lawFn 17 100000 places172 exc172 p = true :=
  (fun p h => by cases h)
theorem places172_paths : ∀ p ∈ places172, pathsOk p.stk :=
  (fun p h => by cases h)
theorem exc172_no : ∀ q ∈ exc172, ∀ i, ¬ Holds i q := by intro q hq; cases hq
def places188 : List Sx.Place := []
def lawPc188 : Pc := [((.eq (.var 4 (.negSucc 9223372036854775807) 9223372036854775807) (.lit 0)), true), ((.lt (.var 4 (.negSucc 9223372036854775807) 9223372036854775807) (.lit 0)), false), ((.eq (.var 0 0 255) (.lit 84)), true), ((.lt (.var 0 0 255) (.lit 90)), true), ((.lt (.var 0 0 255) (.lit 84)), false), ((.lt (.var 0 0 255) (.lit 78)), false), ((.lt (.var 0 0 255) (.lit 72)), false), ((.lt (.var 0 0 255) (.lit 66)), false), ((.lt (.var 0 0 255) (.lit 60)), false), ((.lt (.var 0 0 255) (.lit 54)), false), ((.lt (.var 0 0 255) (.lit 48)), false), ((.lt (.var 0 0 255) (.lit 42)), false), ((.lt (.var 0 0 255) (.lit 36)), false), ((.lt (.var 0 0 255) (.lit 30)), false), ((.lt (.var 0 0 255) (.lit 24)), false), ((.lt (.var 0 0 255) (.lit 18)), false), ((.lt (.var 0 0 255) (.lit 12)), false), ((.lt (.var 0 0 255) (.lit 6)), false)]
def exc188 : List Pc := []
theorem start188_yes : startYes Tryd.prog (tabGlob tabs) lawEv 2130220 lawBody lawFn 17 100000 places188 exc188 (psV lawPs 0) (stTab tabs lawPc188) = true := by kernel_rfl
theorem places188_yes : ∀ p ∈ places188, placeYes Tryd.prog (tabGlob tabs) lawEv 2130220 lawBody lawFn 17 100000 places188 exc188 p = true :=
  (fun p h => by cases h)
theorem places188_paths : ∀ p ∈ places188, pathsOk p.stk :=
  (fun p h => by cases h)
theorem exc188_no : ∀ q ∈ exc188, ∀ i, ¬ Holds i q := by intro q hq; cases hq
def places204 : List Sx.Place := []
def lawPc204 : Pc := [((.eq (.var 4 (.negSucc 9223372036854775807) 9223372036854775807) (.lit 0)), false), ((.lt (.var 4 (.negSucc 9223372036854775807) 9223372036854775807) (.lit 0)), false), ((.eq (.var 0 0 255) (.lit 88)), false), ((.eq (.var 0 0 255) (.lit 87)), false), ((.eq (.var 0 0 255) (.lit 86)), false), ((.eq (.var 0 0 255) (.lit 85)), false), ((.eq (.var 0 0 255) (.lit 84)), false), ((.lt (.var 0 0 255) (.lit 90)), true), ((.lt (.var 0 0 255) (.lit 84)), false), ((.lt (.var 0 0 255) (.lit 78)), false), ((.lt (.var 0 0 255) (.lit 72)), false), ((.lt (.var 0 0 255) (.lit 66)), false), ((.lt (.var 0 0 255) (.lit 60)), false), ((.lt (.var 0 0 255) (.lit 54)), false), ((.lt (.var 0 0 255) (.lit 48)), false), ((.lt (.var 0 0 255) (.lit 42)), false), ((.lt (.var 0 0 255) (.lit 36)), false), ((.lt (.var 0 0 255) (.lit 30)), false), ((.lt (.var 0 0 255) (.lit 24)), false), ((.lt (.var 0 0 255) (.lit 18)), false), ((.lt (.var 0 0 255) (.lit 12)), false), ((.lt (.var 0 0 255) (.lit 6)), false)]
def exc204 : List Pc := []
theorem start204_yes : startYes Tryd.prog (tabGlob tabs) lawEv 2130220 lawBody lawFn 17 100000 places204 exc204 (psV lawPs 0) (stTab tabs lawPc204) = true := by kernel_rfl
theorem places204_yes : ∀ p ∈ places204, placeYes Tryd.prog (tabGlob tabs) lawEv 2130220 lawBody lawFn 17 100000 places204 exc204 p = true :=
  (fun p h => by cases h)
theorem places204_paths : ∀ p ∈ places204, pathsOk p.stk :=
  (fun p h => by cases h)
theorem exc204_no : ∀ q ∈ exc204, ∀ i, ¬ Holds i q := by intro q hq; cases hq
def places220 : List Sx.Place := []
def lawPc220 : Pc := [((.lt (.var 4 (.negSucc 9223372036854775807) 9223372036854775807) (.lit 0)), true), ((.eq (.var 0 0 255) (.lit 97)), true), ((.eq (.var 0 0 255) (.lit 96)), false), ((.lt (.var 0 0 255) (.lit 99)), true), ((.lt (.var 0 0 255) (.lit 96)), false), ((.lt (.var 0 0 255) (.lit 90)), false), ((.lt (.var 0 0 255) (.lit 84)), false), ((.lt (.var 0 0 255) (.lit 78)), false), ((.lt (.var 0 0 255) (.lit 72)), false), ((.lt (.var 0 0 255) (.lit 66)), false), ((.lt (.var 0 0 255) (.lit 60)), false), ((.lt (.var 0 0 255) (.lit 54)), false), ((.lt (.var 0 0 255) (.lit 48)), false), ((.lt (.var 0 0 255) (.lit 42)), false), ((.lt (.var 0 0 255) (.lit 36)), false), ((.lt (.var 0 0 255) (.lit 30)), false), ((.lt (.var 0 0 255) (.lit 24)), false), ((.lt (.var 0 0 255) (.lit 18)), false), ((.lt (.var 0 0 255) (.lit 12)), false), ((.lt (.var 0 0 255) (.lit 6)), false)]
def exc220 : List Pc := []
theorem start220_yes : startYes Tryd.prog (tabGlob tabs) lawEv 2130220 lawBody lawFn 17 100000 places220 exc220 (psV lawPs 0) (stTab tabs lawPc220) = true := by kernel_rfl
theorem places220_yes : ∀ p ∈ places220, placeYes Tryd.prog (tabGlob tabs) lawEv 2130220 lawBody lawFn 17 100000 places220 exc220 p = true :=
  (fun p h => by cases h)
theorem places220_paths : ∀ p ∈ places220, pathsOk p.stk :=
  (fun p h => by cases h)
theorem exc220_no : ∀ q ∈ exc220, ∀ i, ¬ Holds i q := by intro q hq; cases hq
end
end Go.Proofs.YtjlfojjkdeflpaaDoor.Sx
