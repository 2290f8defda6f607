/- InstChecks: a part of its cases. -/
import Derived.Test.YtjlfojjkdeflpaaDoorUInstChecks
set_option linter.unusedVariables false
set_option linter.unusedSimpArgs false
namespace Go.Proofs.YtjlfojjkdeflpaaDoor.Sx
open Go
noncomputable section
set_option maxRecDepth 100000
def places6 : List Sx.Place := []
def lawPc6 : Pc := [((.eq (.var 0 0 255) (.lit 6)), true), ((.lt (.var 0 0 255) (.lit 12)), true), ((.lt (.var 0 0 255) (.lit 6)), false)]
def exc6 : List Pc := []
theorem start6_yes : startYes Tryd.prog (tabGlob tabs) lawEv 2130220 lawBody lawFn 17 100000 places6 exc6 (psV lawPs 0) (stTab tabs lawPc6) = true := by kernel_rfl
theorem places6_yes : ∀ p ∈ places6, placeYes Tryd.prog (tabGlob tabs) lawEv 2130220 lawBody lawFn 17 100000 places6 exc6 p = true :=
  (fun p h => by cases h)
theorem places6_paths : ∀ p ∈ places6, pathsOk p.stk :=
  (fun p h => by cases h)
theorem exc6_no : ∀ q ∈ exc6, ∀ i, ¬ Holds i q := by intro q hq; cases hq
def places22 : List Sx.Place := []
def lawPc22 : Pc := [((.eq (.var 0 0 255) (.lit 21)), true), ((.eq (.var 0 0 255) (.lit 20)), false), ((.eq (.var 0 0 255) (.lit 19)), false), ((.eq (.var 0 0 255) (.lit 18)), false), ((.lt (.var 0 0 255) (.lit 24)), true), ((.lt (.var 0 0 255) (.lit 18)), false), ((.lt (.var 0 0 255) (.lit 12)), false), ((.lt (.var 0 0 255) (.lit 6)), false)]
def exc22 : List Pc := []
theorem start22_yes : startYes Tryd.prog (tabGlob tabs) lawEv 2130220 lawBody lawFn 17 100000 places22 exc22 (psV lawPs 0) (stTab tabs lawPc22) = true := by kernel_rfl
theorem places22_yes : ∀ p ∈ places22, placeYes Tryd.prog (tabGlob tabs) lawEv 2130220 lawBody lawFn 17 100000 places22 exc22 p = true :=
  (fun p h => by cases h)
theorem places22_paths : ∀ p ∈ places22, pathsOk p.stk :=
  (fun p h => by cases h)
theorem exc22_no : ∀ q ∈ exc22, ∀ i, ¬ Holds i q := by intro q hq; cases hq
def places38 : List Sx.Place := []
def lawPc38 : Pc := [((.eq (.var 4 (.negSucc 9223372036854775807) 9223372036854775807) (.lit 0)), false), ((.lt (.var 4 (.negSucc 9223372036854775807) 9223372036854775807) (.lit 0)), false), ((.eq (.var 0 0 255) (.lit 31)), true), ((.eq (.var 0 0 255) (.lit 30)), false), ((.lt (.var 0 0 255) (.lit 36)), true), ((.lt (.var 0 0 255) (.lit 30)), false), ((.lt (.var 0 0 255) (.lit 24)), false), ((.lt (.var 0 0 255) (.lit 18)), false), ((.lt (.var 0 0 255) (.lit 12)), false), ((.lt (.var 0 0 255) (.lit 6)), false)]
def exc38 : List Pc := []
theorem start38_yes : startYes Tryd.prog (tabGlob tabs) lawEv 2130220 lawBody lawFn 17 100000 places38 exc38 (psV lawPs 0) (stTab tabs lawPc38) = true := by kernel_rfl
theorem places38_yes : ∀ p ∈ places38, placeYes Tryd.prog (tabGlob tabs) lawEv 2130220 lawBody lawFn 17 100000 places38 exc38 p = true :=
  (fun p h => by cases h)
theorem places38_paths : ∀ p ∈ places38, pathsOk p.stk :=
  (fun p h => by cases h)
theorem exc38_no : ∀ q ∈ exc38, ∀ i, ¬ Holds i q := by intro q hq; cases hq
def places54 : List Sx.Place := []
def lawPc54 : Pc := [((.lt (.var 4 (.negSucc 9223372036854775807) 9223372036854775807) (.lit 0)), true), ((.eq (.var 0 0 255) (.lit 37)), true), ((.eq (.var 0 0 255) (.lit 36)), false), ((.lt (.var 0 0 255) (.lit 42)), true), ((.lt (.var 0 0 255) (.lit 36)), false), ((.lt (.var 0 0 255) (.lit 30)), false), ((.lt (.var 0 0 255) (.lit 24)), false), ((.lt (.var 0 0 255) (.lit 18)), false), ((.lt (.var 0 0 255) (.lit 12)), false), ((.lt (.var 0 0 255) (.lit 6)), false)]
def exc54 : List Pc := []
theorem start54_yes : startYes Tryd.prog (tabGlob tabs) lawEv 2130220 lawBody lawFn 17 100000 places54 exc54 (psV lawPs 0) (stTab tabs lawPc54) = true := by kernel_rfl
theorem places54_yes : ∀ p ∈ places54, placeYes Tryd.prog (tabGlob tabs) lawEv 2130220 lawBody lawFn 17 100000 places54 exc54 p = true :=
  (fun p h => by cases h)
theorem places54_paths : ∀ p ∈ places54, pathsOk p.stk :=
  (fun p h => by cases h)
theorem exc54_no : ∀ q ∈ exc54, ∀ i, ¬ Holds i q := by intro q hq; cases hq
def places70 : List Sx.Place := []
def lawPc70 : Pc := [((.lt (.var 4 (.negSucc 9223372036854775807) 9223372036854775807) (.lit 0)), true), ((.eq (.var 0 0 255) (.lit 45)), true), ((.eq (.var 0 0 255) (.lit 44)), false), ((.eq (.var 0 0 255) (.lit 43)), false), ((.eq (.var 0 0 255) (.lit 42)), false), ((.lt (.var 0 0 255) (.lit 48)), true), ((.lt (.var 0 0 255) (.lit 42)), false), ((.lt (.var 0 0 255) (.lit 36)), false), ((.lt (.var 0 0 255) (.lit 30)), false), ((.lt (.var 0 0 255) (.lit 24)), false), ((.lt (.var 0 0 255) (.lit 18)), false), ((.lt (.var 0 0 255) (.lit 12)), false), ((.lt (.var 0 0 255) (.lit 6)), false)]
def exc70 : List Pc := []
theorem start70_yes : startYes Tryd.prog (tabGlob tabs) lawEv 2130220 lawBody lawFn 17 100000 places70 exc70 (psV lawPs 0) (stTab tabs lawPc70) = true := by kernel_rfl
theorem places70_yes : ∀ p ∈ places70, placeYes Tryd.prog (tabGlob tabs) lawEv 2130220 lawBody lawFn 17 100000 places70 exc70 p = true :=
  (fun p h => by cases h)
theorem places70_paths : ∀ p ∈ places70, pathsOk p.stk :=
  (fun p h => by cases h)
theorem exc70_no : ∀ q ∈ exc70, ∀ i, ¬ Holds i q := by intro q hq; cases hq
def places86 : List Sx.Place := []
def lawPc86 : Pc := [((.eq (.var 4 (.negSucc 9223372036854775807) 9223372036854775807) (.lit 0)), true), ((.lt (.var 4 (.negSucc 9223372036854775807) 9223372036854775807) (.lit 0)), false), ((.eq (.var 0 0 255) (.lit 50)), true), ((.eq (.var 0 0 255) (.lit 49)), false), ((.eq (.var 0 0 255) (.lit 48)), false), ((.lt (.var 0 0 255) (.lit 54)), true), ((.lt (.var 0 0 255) (.lit 48)), false), ((.lt (.var 0 0 255) (.lit 42)), false), ((.lt (.var 0 0 255) (.lit 36)), false), ((.lt (.var 0 0 255) (.lit 30)), false), ((.lt (.var 0 0 255) (.lit 24)), false), ((.lt (.var 0 0 255) (.lit 18)), false), ((.lt (.var 0 0 255) (.lit 12)), false), ((.lt (.var 0 0 255) (.lit 6)), false)]
def exc86 : List Pc := []
theorem start86_yes : startYes Tryd.prog (tabGlob tabs) lawEv 2130220 lawBody lawFn 17 100000 places86 exc86 (psV lawPs 0) (stTab tabs lawPc86) = true := by kernel_rfl
theorem places86_yes : ∀ p ∈ places86, placeYes Tryd.prog (tabGlob tabs) lawEv 2130220 lawBody lawFn 17 100000 places86 exc86 p = true :=
  (fun p h => by cases h)
theorem places86_paths : ∀ p ∈ places86, pathsOk p.stk :=
  (fun p h => by cases h)
theorem exc86_no : ∀ q ∈ exc86, ∀ i, ¬ Holds i q := by intro q hq; cases hq
def places102 : List Sx.Place := []
def lawPc102 : Pc := [((.eq (.var 4 (.negSucc 9223372036854775807) 9223372036854775807) (.lit 0)), false), ((.lt (.var 4 (.negSucc 9223372036854775807) 9223372036854775807) (.lit 0)), false), ((.eq (.var 0 0 255) (.lit 55)), true), ((.eq (.var 0 0 255) (.lit 54)), false), ((.lt (.var 0 0 255) (.lit 60)), true), ((.lt (.var 0 0 255) (.lit 54)), false), ((.lt (.var 0 0 255) (.lit 48)), false), ((.lt (.var 0 0 255) (.lit 42)), false), ((.lt (.var 0 0 255) (.lit 36)), false), ((.lt (.var 0 0 255) (.lit 30)), false), ((.lt (.var 0 0 255) (.lit 24)), false), ((.lt (.var 0 0 255) (.lit 18)), false), ((.lt (.var 0 0 255) (.lit 12)), false), ((.lt (.var 0 0 255) (.lit 6)), false)]
def exc102 : List Pc := []
theorem start102_yes : startYes Tryd.prog (tabGlob tabs) lawEv 2130220 lawBody lawFn 17 100000 places102 exc102 (psV lawPs 0) (stTab tabs lawPc102) = true := by kernel_rfl
theorem places102_yes : ∀ p ∈ places102, placeYes Tryd.prog (tabGlob tabs) lawEv 2130220 lawBody lawFn 17 100000 places102 exc102 p = true :=
  (fun p h => by cases h)
theorem places102_paths : ∀ p ∈ places102, pathsOk p.stk :=
  (fun p h => by cases h)
theorem exc102_no : ∀ q ∈ exc102, ∀ i, ¬ Holds i q := by intro q hq; cases hq
def places118 : List Sx.Place := []
def lawPc118 : Pc := [((.lt (.var 4 (.negSucc 9223372036854775807) 9223372036854775807) (.lit 0)), true), ((.eq (.var 0 0 255) (.lit 61)), true), ((.eq (.var 0 0 255) (.lit 60)), false), ((.lt (.var 0 0 255) (.lit 66)), true), ((.lt (.var 0 0 255) (.lit 60)), false), ((.lt (.var 0 0 255) (.lit 54)), false), ((.lt (.var 0 0 255) (.lit 48)), false), ((.lt (.var 0 0 255) (.lit 42)), false), ((.lt (.var 0 0 255) (.lit 36)), false), ((.lt (.var 0 0 255) (.lit 30)), false), ((.lt (.var 0 0 255) (.lit 24)), false), ((.lt (.var 0 0 255) (.lit 18)), false), ((.lt (.var 0 0 255) (.lit 12)), false), ((.lt (.var 0 0 255) (.lit 6)), false)]
def exc118 : List Pc := []
theorem start118_yes : startYes Tryd.prog (tabGlob tabs) lawEv 2130220 lawBody lawFn 17 100000 places118 exc118 (psV lawPs 0) (stTab tabs lawPc118) = true := by kernel_rfl
theorem places118_yes : ∀ p ∈ places118, placeYes Tryd.prog (tabGlob tabs) lawEv 2130220 lawBody lawFn 17 100000 places118 exc118 p = true :=
  (fun p h => by cases h)
theorem places118_paths : ∀ p ∈ places118, pathsOk p.stk :=
  (fun p h => by cases h)
theorem exc118_no : ∀ q ∈ exc118, ∀ i, ¬ Holds i q := by intro q hq; cases hq
def places134 : List Sx.Place := []
def lawPc134 : Pc := [((.eq (.var 4 (.negSucc 9223372036854775807) 9223372036854775807) (.lit 0)), true), ((.lt (.var 4 (.negSucc 9223372036854775807) 9223372036854775807) (.lit 0)), false), ((.eq (.var 0 0 255) (.lit 66)), true), ((.lt (.var 0 0 255) (.lit 72)), true), ((.lt (.var 0 0 255) (.lit 66)), false), ((.lt (.var 0 0 255) (.lit 60)), false), ((.lt (.var 0 0 255) (.lit 54)), false), ((.lt (.var 0 0 255) (.lit 48)), false), ((.lt (.var 0 0 255) (.lit 42)), false), ((.lt (.var 0 0 255) (.lit 36)), false), ((.lt (.var 0 0 255) (.lit 30)), false), ((.lt (.var 0 0 255) (.lit 24)), false), ((.lt (.var 0 0 255) (.lit 18)), false), ((.lt (.var 0 0 255) (.lit 12)), false), ((.lt (.var 0 0 255) (.lit 6)), false)]
def exc134 : List Pc := []
theorem start134_yes : startYes Tryd.prog (tabGlob tabs) lawEv 2130220 lawBody lawFn 17 100000 places134 exc134 (psV lawPs 0) (stTab tabs lawPc134) = true := by kernel_rfl
theorem places134_yes : ∀ p ∈ places134, placeYes Tryd.prog (tabGlob tabs) lawEv 2130220 lawBody lawFn 17 100000 places134 exc134 p = true :=
  (fun p h => by cases h)
theorem places134_paths : ∀ p ∈ places134, pathsOk p.stk :=
  (fun p h => by cases h)
theorem exc134_no : ∀ q ∈ exc134, ∀ i, ¬ Holds i q := by intro q hq; cases hq
def places150 : List Sx.Place := []
def lawPc150 : Pc := [((.eq (.var 4 (.negSucc 9223372036854775807) 9223372036854775807) (.lit 0)), false), ((.lt (.var 4 (.negSucc 9223372036854775807) 9223372036854775807) (.lit 0)), false), ((.eq (.var 0 0 255) (.lit 70)), false), ((.eq (.var 0 0 255) (.lit 69)), false), ((.eq (.var 0 0 255) (.lit 68)), false), ((.eq (.var 0 0 255) (.lit 67)), false), ((.eq (.var 0 0 255) (.lit 66)), false), ((.lt (.var 0 0 255) (.lit 72)), true), ((.lt (.var 0 0 255) (.lit 66)), false), ((.lt (.var 0 0 255) (.lit 60)), false), ((.lt (.var 0 0 255) (.lit 54)), false), ((.lt (.var 0 0 255) (.lit 48)), false), ((.lt (.var 0 0 255) (.lit 42)), false), ((.lt (.var 0 0 255) (.lit 36)), false), ((.lt (.var 0 0 255) (.lit 30)), false), ((.lt (.var 0 0 255) (.lit 24)), false), ((.lt (.var 0 0 255) (.lit 18)), false), ((.lt (.var 0 0 255) (.lit 12)), false), ((.lt (.var 0 0 255) (.lit 6)), false)]
def exc150 : List Pc := []
theorem start150_yes : startYes Tryd.prog (tabGlob tabs) lawEv 2130220 lawBody lawFn 17 100000 places150 exc150 (psV lawPs 0) (stTab tabs lawPc150) = true := by kernel_rfl
theorem places150_yes : ∀ p ∈ places150, placeYes Tryd.prog (tabGlob tabs) lawEv 2130220 lawBody lawFn 17 100000 places150 exc150 p = true :=
  (fun p h => by cases h)
theorem places150_paths : ∀ p ∈ places150, pathsOk p.stk :=
  (fun p h => by cases h)
theorem exc150_no : ∀ q ∈ exc150, ∀ i, ¬ Holds i q := by intro q hq; cases hq
def places166 : List Sx.Place := []
def lawPc166 : Pc := [((.lt (.var 4 (.negSucc 9223372036854775807) 9223372036854775807) (.lit 0)), true), ((.eq (.var 0 0 255) (.lit 76)), false), ((.eq (.var 0 0 255) (.lit 75)), false), ((.eq (.var 0 0 255) (.lit 74)), false), ((.eq (.var 0 0 255) (.lit 73)), false), ((.eq (.var 0 0 255) (.lit 72)), false), ((.lt (.var 0 0 255) (.lit 78)), true), ((.lt (.var 0 0 255) (.lit 72)), false), ((.lt (.var 0 0 255) (.lit 66)), false), ((.lt (.var 0 0 255) (.lit 60)), false), ((.lt (.var 0 0 255) (.lit 54)), false), ((.lt (.var 0 0 255) (.lit 48)), false), ((.lt (.var 0 0 255) (.lit 42)), false), ((.lt (.var 0 0 255) (.lit 36)), false), ((.lt (.var 0 0 255) (.lit 30)), false), ((.lt (.var 0 0 255) (.lit 24)), false), ((.lt (.var 0 0 255) (.lit 18)), false), ((.lt (.var 0 0 255) (.lit 12)), false), ((.lt (.var 0 0 255) (.lit 6)), false)]
def exc166 : List Pc := []
theorem start166_yes : startYes Tryd.prog (tabGlob tabs) lawEv 2130220 lawBody lawFn 17 100000 places166 exc166 (psV lawPs 0) (stTab tabs lawPc166) = true := by kernel_rfl
theorem places166_yes : ∀ p ∈ places166, placeYes Tryd.prog (tabGlob tabs) lawEv 2130220 lawBody lawFn 17 100000 places166 exc166 p = true :=
  (fun p h => by cases h)
theorem places166_paths : ∀ p ∈ places166, pathsOk p.stk :=
  (fun p h => by cases h)
theorem exc166_no : ∀ q ∈ exc166, ∀ i, ¬ Holds i q := by intro q hq; cases hq
def places182 : List Sx.Place := []
def lawPc182 : Pc := [((.eq (.var 4 (.negSucc 9223372036854775807) 9223372036854775807) (.lit 0)), true), ((.lt (.var 4 (.negSucc 9223372036854775807) 9223372036854775807) (.lit 0)), false), ((.eq (.var 0 0 255) (.lit 82)), true), ((.eq (.var 0 0 255) (.lit 81)), false), ((.eq (.var 0 0 255) (.lit 80)), false), ((.eq (.var 0 0 255) (.lit 79)), false), ((.eq (.var 0 0 255) (.lit 78)), false), ((.lt (.var 0 0 255) (.lit 84)), true), ((.lt (.var 0 0 255) (.lit 78)), false), ((.lt (.var 0 0 255) (.lit 72)), false), ((.lt (.var 0 0 255) (.lit 66)), false), ((.lt (.var 0 0 255) (.lit 60)), false), ((.lt (.var 0 0 255) (.lit 54)), false), ((.lt (.var 0 0 255) (.lit 48)), false), ((.lt (.var 0 0 255) (.lit 42)), false), ((.lt (.var 0 0 255) (.lit 36)), false), ((.lt (.var 0 0 255) (.lit 30)), false), ((.lt (.var 0 0 255) (.lit 24)), false), ((.lt (.var 0 0 255) (.lit 18)), false), ((.lt (.var 0 0 255) (.lit 12)), false), ((.lt (.var 0 0 255) (.lit 6)), false)]
def exc182 : List Pc := []
theorem start182_yes : startYes Tryd.prog (tabGlob tabs) lawEv 2130220 lawBody lawFn 17 100000 places182 exc182 (psV lawPs 0) (stTab tabs lawPc182) = true := by kernel_rfl
theorem places182_yes : ∀ p ∈ places182, placeYes Tryd.prog (tabGlob tabs) lawEv 2130220 lawBody lawFn 17 100000 places182 exc182 p = true :=
  (fun p h => by cases h)
theorem places182_paths : ∀ p ∈ places182, pathsOk p.stk :=
  (fun p h => by cases h)
theorem exc182_no : ∀ q ∈ exc182, ∀ i, ¬ Holds i q := by intro q hq; cases hq
def places198 : List Sx.Place := []
def lawPc198 : Pc := [((.eq (.var 4 (.negSucc 9223372036854775807) 9223372036854775807) (.lit 0)), false), ((.lt (.var 4 (.negSucc 9223372036854775807) 9223372036854775807) (.lit 0)), false), ((.eq (.var 0 0 255) (.lit 87)), true), ((.eq (.var 0 0 255) (.lit 86)), false), ((.eq (.var 0 0 255) (.lit 85)), false), ((.eq (.var 0 0 255) (.lit 84)), false), ((.lt (.var 0 0 255) (.lit 90)), true), ((.lt (.var 0 0 255) (.lit 84)), false), ((.lt (.var 0 0 255) (.lit 78)), false), ((.lt (.var 0 0 255) (.lit 72)), false), ((.lt (.var 0 0 255) (.lit 66)), false), ((.lt (.var 0 0 255) (.lit 60)), false), ((.lt (.var 0 0 255) (.lit 54)), false), ((.lt (.var 0 0 255) (.lit 48)), false), ((.lt (.var 0 0 255) (.lit 42)), false), ((.lt (.var 0 0 255) (.lit 36)), false), ((.lt (.var 0 0 255) (.lit 30)), false), ((.lt (.var 0 0 255) (.lit 24)), false), ((.lt (.var 0 0 255) (.lit 18)), false), ((.lt (.var 0 0 255) (.lit 12)), false), ((.lt (.var 0 0 255) (.lit 6)), false)]
def exc198 : List Pc := []
theorem start198_yes : startYes Tryd.prog (tabGlob tabs) lawEv 2130220 lawBody lawFn 17 100000 places198 exc198 (psV lawPs 0) (stTab tabs lawPc198) = true := by kernel_rfl
theorem places198_yes : ∀ p ∈ places198, placeYes Tryd.prog (tabGlob tabs) lawEv 2130220 lawBody lawFn 17 100000 places198 exc198 p = true :=
  (fun p h => by cases h)
theorem places198_paths : ∀ p ∈ places198, pathsOk p.stk :=
  (fun p h => by cases h)
theorem exc198_no : ∀ q ∈ exc198, ∀ i, ¬ Holds i q := by intro q hq; cases hq
def places214 : List Sx.Place := []
def lawPc214 : Pc := [((.lt (.var 4 (.negSucc 9223372036854775807) 9223372036854775807) (.lit 0)), true), ((.eq (.var 0 0 255) (.lit 94)), false), ((.eq (.var 0 0 255) (.lit 93)), false), ((.eq (.var 0 0 255) (.lit 92)), false), ((.eq (.var 0 0 255) (.lit 91)), false), ((.eq (.var 0 0 255) (.lit 90)), false), ((.lt (.var 0 0 255) (.lit 96)), true), ((.lt (.var 0 0 255) (.lit 90)), false), ((.lt (.var 0 0 255) (.lit 84)), false), ((.lt (.var 0 0 255) (.lit 78)), false), ((.lt (.var 0 0 255) (.lit 72)), false), ((.lt (.var 0 0 255) (.lit 66)), false), ((.lt (.var 0 0 255) (.lit 60)), false), ((.lt (.var 0 0 255) (.lit 54)), false), ((.lt (.var 0 0 255) (.lit 48)), false), ((.lt (.var 0 0 255) (.lit 42)), false), ((.lt (.var 0 0 255) (.lit 36)), false), ((.lt (.var 0 0 255) (.lit 30)), false), ((.lt (.var 0 0 255) (.lit 24)), false), ((.lt (.var 0 0 255) (.lit 18)), false), ((.lt (.var 0 0 255) (.lit 12)), false), ((.lt (.var 0 0 255) (.lit 6)), false)]
def exc214 : List Pc := []
theorem start214_yes : startYes Tryd.prog (tabGlob tabs) lawEv 2130220 lawBody lawFn 17 100000 places214 exc214 (psV lawPs 0) (stTab tabs lawPc214) = true := by kernel_rfl
theorem places214_yes : ∀ p ∈ places214, placeYes Tryd.prog (tabGlob tabs) lawEv 2130220 lawBody lawFn 17 100000 places214 exc214 p = true :=
  (fun p h => by cases h)
theorem places214_paths : ∀ p ∈ places214, pathsOk p.stk :=
  (fun p h => by cases h)
theorem exc214_no : ∀ q ∈ exc214, ∀ i, ¬ Holds i q := by intro q hq; cases hq
end
end Go.Proofs.YtjlfojjkdeflpaaDoor.Sx
