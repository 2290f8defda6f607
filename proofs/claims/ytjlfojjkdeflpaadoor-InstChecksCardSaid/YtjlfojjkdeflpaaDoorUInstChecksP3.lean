/- InstChecks: a part of its cases. -/
import Derived.Test.YtjlfojjkdeflpaaDoorUInstChecks
set_option linter.unusedVariables false
set_option linter.unusedSimpArgs false
namespace Go.Proofs.YtjlfojjkdeflpaaDoor.Sx
open Go
noncomputable section
set_option maxRecDepth 100000
def places3 : List Sx.Place := []
def lawPc3 : Pc := [((.eq (.var 0 0 255) (.lit 3)), true), ((.eq (.var 0 0 255) (.lit 2)), false), ((.eq (.var 0 0 255) (.lit 1)), false), ((.eq (.var 0 0 255) (.lit 0)), false), ((.lt (.var 0 0 255) (.lit 6)), true)]
def exc3 : List Pc := []
theorem start3_yes : startYes Tryd.prog (tabGlob tabs) lawEv 2130220 lawBody lawFn 17 100000 places3 exc3 (psV lawPs 0) (stTab tabs lawPc3) = true := by kernel_rfl
theorem places3_yes : ∀ p ∈ places3, placeYes Tryd.prog (tabGlob tabs) lawEv 2130220 lawBody lawFn 17 100000 places3 exc3 p = true :=
  (fun p h => by cases h)
theorem places3_paths : ∀ p ∈ places3, pathsOk p.stk :=
  (fun p h => by cases h)
theorem exc3_no : ∀ q ∈ exc3, ∀ i, ¬ Holds i q := by intro q hq; cases hq
def places19 : List Sx.Place := []
def lawPc19 : Pc := [((.eq (.var 0 0 255) (.lit 18)), true), ((.lt (.var 0 0 255) (.lit 24)), true), ((.lt (.var 0 0 255) (.lit 18)), false), ((.lt (.var 0 0 255) (.lit 12)), false), ((.lt (.var 0 0 255) (.lit 6)), false)]
def exc19 : List Pc := []
theorem start19_yes : startYes Tryd.prog (tabGlob tabs) lawEv 2130220 lawBody lawFn 17 100000 places19 exc19 (psV lawPs 0) (stTab tabs lawPc19) = true := by kernel_rfl
theorem places19_yes : ∀ p ∈ places19, placeYes Tryd.prog (tabGlob tabs) lawEv 2130220 lawBody lawFn 17 100000 places19 exc19 p = true :=
  (fun p h => by cases h)
theorem places19_paths : ∀ p ∈ places19, pathsOk p.stk :=
  (fun p h => by cases h)
theorem exc19_no : ∀ q ∈ exc19, ∀ i, ¬ Holds i q := by intro q hq; cases hq
def places35 : List Sx.Place := []
def lawPc35 : Pc := [((.lt (.var 4 (.negSucc 9223372036854775807) 9223372036854775807) (.lit 0)), true), ((.eq (.var 0 0 255) (.lit 31)), true), ((.eq (.var 0 0 255) (.lit 30)), false), ((.lt (.var 0 0 255) (.lit 36)), true), ((.lt (.var 0 0 255) (.lit 30)), false), ((.lt (.var 0 0 255) (.lit 24)), false), ((.lt (.var 0 0 255) (.lit 18)), false), ((.lt (.var 0 0 255) (.lit 12)), false), ((.lt (.var 0 0 255) (.lit 6)), false)]
def exc35 : List Pc := []
theorem start35_yes : startYes Tryd.prog (tabGlob tabs) lawEv 2130220 lawBody lawFn 17 100000 places35 exc35 (psV lawPs 0) (stTab tabs lawPc35) = true := by kernel_rfl
theorem places35_yes : ∀ p ∈ places35, placeYes Tryd.prog (tabGlob tabs) lawEv 2130220 lawBody lawFn 17 100000 places35 exc35 p = true :=
  (fun p h => by cases h)
theorem places35_paths : ∀ p ∈ places35, pathsOk p.stk :=
  (fun p h => by cases h)
theorem exc35_no : ∀ q ∈ exc35, ∀ i, ¬ Holds i q := by intro q hq; cases hq
def places51 : List Sx.Place := []
def lawPc51 : Pc := [((.lt (.var 4 (.negSucc 9223372036854775807) 9223372036854775807) (.lit 0)), true), ((.eq (.var 0 0 255) (.lit 36)), true), ((.lt (.var 0 0 255) (.lit 42)), true), ((.lt (.var 0 0 255) (.lit 36)), false), ((.lt (.var 0 0 255) (.lit 30)), false), ((.lt (.var 0 0 255) (.lit 24)), false), ((.lt (.var 0 0 255) (.lit 18)), false), ((.lt (.var 0 0 255) (.lit 12)), false), ((.lt (.var 0 0 255) (.lit 6)), false)]
def exc51 : List Pc := []
theorem start51_yes : startYes Tryd.prog (tabGlob tabs) lawEv 2130220 lawBody lawFn 17 100000 places51 exc51 (psV lawPs 0) (stTab tabs lawPc51) = true := by kernel_rfl
theorem places51_yes : ∀ p ∈ places51, placeYes Tryd.prog (tabGlob tabs) lawEv 2130220 lawBody lawFn 17 100000 places51 exc51 p = true :=
  (fun p h => by cases h)
theorem places51_paths : ∀ p ∈ places51, pathsOk p.stk :=
  (fun p h => by cases h)
theorem exc51_no : ∀ q ∈ exc51, ∀ i, ¬ Holds i q := by intro q hq; cases hq
def places67 : List Sx.Place := []
def lawPc67 : Pc := [((.eq (.var 0 0 255) (.lit 42)), true), ((.lt (.var 0 0 255) (.lit 48)), true), ((.lt (.var 0 0 255) (.lit 42)), false), ((.lt (.var 0 0 255) (.lit 36)), false), ((.lt (.var 0 0 255) (.lit 30)), false), ((.lt (.var 0 0 255) (.lit 24)), false), ((.lt (.var 0 0 255) (.lit 18)), false), ((.lt (.var 0 0 255) (.lit 12)), false), ((.lt (.var 0 0 255) (.lit 6)), false)]
def exc67 : List Pc := []
theorem start67_yes : startYes Tryd.prog (tabGlob tabs) lawEv 2130220 lawBody lawFn 17 100000 places67 exc67 (psV lawPs 0) (stTab tabs lawPc67) = true := by kernel_rfl
theorem places67_yes : ∀ p ∈ places67, placeYes Tryd.prog (tabGlob tabs) lawEv 2130220 lawBody lawFn 17 100000 places67 exc67 p = true :=
  (fun p h => by cases h)
theorem places67_paths : ∀ p ∈ places67, pathsOk p.stk :=
  (fun p h => by cases h)
theorem exc67_no : ∀ q ∈ exc67, ∀ i, ¬ Holds i q := by intro q hq; cases hq
def places83 : List Sx.Place := []
def lawPc83 : Pc := [((.eq (.var 4 (.negSucc 9223372036854775807) 9223372036854775807) (.lit 0)), true), ((.lt (.var 4 (.negSucc 9223372036854775807) 9223372036854775807) (.lit 0)), false), ((.eq (.var 0 0 255) (.lit 49)), true), ((.eq (.var 0 0 255) (.lit 48)), false), ((.lt (.var 0 0 255) (.lit 54)), true), ((.lt (.var 0 0 255) (.lit 48)), false), ((.lt (.var 0 0 255) (.lit 42)), false), ((.lt (.var 0 0 255) (.lit 36)), false), ((.lt (.var 0 0 255) (.lit 30)), false), ((.lt (.var 0 0 255) (.lit 24)), false), ((.lt (.var 0 0 255) (.lit 18)), false), ((.lt (.var 0 0 255) (.lit 12)), false), ((.lt (.var 0 0 255) (.lit 6)), false)]
def exc83 : List Pc := []
theorem start83_yes : startYes Tryd.prog (tabGlob tabs) lawEv 2130220 lawBody lawFn 17 100000 places83 exc83 (psV lawPs 0) (stTab tabs lawPc83) = true := by kernel_rfl
theorem places83_yes : ∀ p ∈ places83, placeYes Tryd.prog (tabGlob tabs) lawEv 2130220 lawBody lawFn 17 100000 places83 exc83 p = true :=
  (fun p h => by cases h)
theorem places83_paths : ∀ p ∈ places83, pathsOk p.stk :=
  (fun p h => by cases h)
theorem exc83_no : ∀ q ∈ exc83, ∀ i, ¬ Holds i q := by intro q hq; cases hq
def places99 : List Sx.Place := []
def lawPc99 : Pc := [((.eq (.var 4 (.negSucc 9223372036854775807) 9223372036854775807) (.lit 0)), false), ((.lt (.var 4 (.negSucc 9223372036854775807) 9223372036854775807) (.lit 0)), false), ((.eq (.var 0 0 255) (.lit 54)), true), ((.lt (.var 0 0 255) (.lit 60)), true), ((.lt (.var 0 0 255) (.lit 54)), false), ((.lt (.var 0 0 255) (.lit 48)), false), ((.lt (.var 0 0 255) (.lit 42)), false), ((.lt (.var 0 0 255) (.lit 36)), false), ((.lt (.var 0 0 255) (.lit 30)), false), ((.lt (.var 0 0 255) (.lit 24)), false), ((.lt (.var 0 0 255) (.lit 18)), false), ((.lt (.var 0 0 255) (.lit 12)), false), ((.lt (.var 0 0 255) (.lit 6)), false)]
def exc99 : List Pc := []
theorem start99_yes : startYes Tryd.prog (tabGlob tabs) lawEv 2130220 lawBody lawFn 17 100000 places99 exc99 (psV lawPs 0) (stTab tabs lawPc99) = true := by kernel_rfl
theorem places99_yes : ∀ p ∈ places99, placeYes Tryd.prog (tabGlob tabs) lawEv 2130220 lawBody lawFn 17 100000 places99 exc99 p = true :=
  (fun p h => by cases h)
theorem places99_paths : ∀ p ∈ places99, pathsOk p.stk :=
  (fun p h => by cases h)
theorem exc99_no : ∀ q ∈ exc99, ∀ i, ¬ Holds i q := by intro q hq; cases hq
def places115 : List Sx.Place := []
def lawPc115 : Pc := [((.lt (.var 4 (.negSucc 9223372036854775807) 9223372036854775807) (.lit 0)), true), ((.eq (.var 0 0 255) (.lit 60)), true), ((.lt (.var 0 0 255) (.lit 66)), true), ((.lt (.var 0 0 255) (.lit 60)), false), ((.lt (.var 0 0 255) (.lit 54)), false), ((.lt (.var 0 0 255) (.lit 48)), false), ((.lt (.var 0 0 255) (.lit 42)), false), ((.lt (.var 0 0 255) (.lit 36)), false), ((.lt (.var 0 0 255) (.lit 30)), false), ((.lt (.var 0 0 255) (.lit 24)), false), ((.lt (.var 0 0 255) (.lit 18)), false), ((.lt (.var 0 0 255) (.lit 12)), false), ((.lt (.var 0 0 255) (.lit 6)), false)]
def exc115 : List Pc := []
theorem start115_yes : startYes Tryd.prog (tabGlob tabs) lawEv 2130220 lawBody lawFn 17 100000 places115 exc115 (psV lawPs 0) (stTab tabs lawPc115) = true := by kernel_rfl
theorem places115_yes : ∀ p ∈ places115, placeYes Tryd.prog (tabGlob tabs) lawEv 2130220 lawBody lawFn 17 100000 places115 exc115 p = true :=
  (fun p h => by cases h)
theorem places115_paths : ∀ p ∈ places115, pathsOk p.stk :=
  (fun p h => by cases h)
theorem exc115_no : ∀ q ∈ exc115, ∀ i, ¬ Holds i q := by intro q hq; cases hq
def places131 : List Sx.Place := []
def lawPc131 : Pc := [((.eq (.var 4 (.negSucc 9223372036854775807) 9223372036854775807) (.lit 0)), true), ((.lt (.var 4 (.negSucc 9223372036854775807) 9223372036854775807) (.lit 0)), false), ((.eq (.var 0 0 255) (.lit 64)), false), ((.eq (.var 0 0 255) (.lit 63)), false), ((.eq (.var 0 0 255) (.lit 62)), false), ((.eq (.var 0 0 255) (.lit 61)), false), ((.eq (.var 0 0 255) (.lit 60)), false), ((.lt (.var 0 0 255) (.lit 66)), true), ((.lt (.var 0 0 255) (.lit 60)), false), ((.lt (.var 0 0 255) (.lit 54)), false), ((.lt (.var 0 0 255) (.lit 48)), false), ((.lt (.var 0 0 255) (.lit 42)), false), ((.lt (.var 0 0 255) (.lit 36)), false), ((.lt (.var 0 0 255) (.lit 30)), false), ((.lt (.var 0 0 255) (.lit 24)), false), ((.lt (.var 0 0 255) (.lit 18)), false), ((.lt (.var 0 0 255) (.lit 12)), false), ((.lt (.var 0 0 255) (.lit 6)), false)]
def exc131 : List Pc := []
theorem start131_yes : startYes Tryd.prog (tabGlob tabs) lawEv 2130220 lawBody lawFn 17 100000 places131 exc131 (psV lawPs 0) (stTab tabs lawPc131) = true := by kernel_rfl
theorem places131_yes : ∀ p ∈ places131, placeYes Tryd.prog (tabGlob tabs) lawEv 2130220 lawBody lawFn 17 100000 places131 exc131 p = true :=
  (fun p h => by cases h)
theorem places131_paths : ∀ p ∈ places131, pathsOk p.stk :=
  (fun p h => by cases h)
theorem exc131_no : ∀ q ∈ exc131, ∀ i, ¬ Holds i q := by intro q hq; cases hq
def places147 : List Sx.Place := []
def lawPc147 : Pc := [((.eq (.var 4 (.negSucc 9223372036854775807) 9223372036854775807) (.lit 0)), false), ((.lt (.var 4 (.negSucc 9223372036854775807) 9223372036854775807) (.lit 0)), false), ((.eq (.var 0 0 255) (.lit 70)), true), ((.eq (.var 0 0 255) (.lit 69)), false), ((.eq (.var 0 0 255) (.lit 68)), false), ((.eq (.var 0 0 255) (.lit 67)), false), ((.eq (.var 0 0 255) (.lit 66)), false), ((.lt (.var 0 0 255) (.lit 72)), true), ((.lt (.var 0 0 255) (.lit 66)), false), ((.lt (.var 0 0 255) (.lit 60)), false), ((.lt (.var 0 0 255) (.lit 54)), false), ((.lt (.var 0 0 255) (.lit 48)), false), ((.lt (.var 0 0 255) (.lit 42)), false), ((.lt (.var 0 0 255) (.lit 36)), false), ((.lt (.var 0 0 255) (.lit 30)), false), ((.lt (.var 0 0 255) (.lit 24)), false), ((.lt (.var 0 0 255) (.lit 18)), false), ((.lt (.var 0 0 255) (.lit 12)), false), ((.lt (.var 0 0 255) (.lit 6)), false)]
def exc147 : List Pc := []
theorem start147_yes : startYes Tryd.prog (tabGlob tabs) lawEv 2130220 lawBody lawFn 17 100000 places147 exc147 (psV lawPs 0) (stTab tabs lawPc147) = true := by kernel_rfl
theorem places147_yes : ∀ p ∈ places147, placeYes Tryd.prog (tabGlob tabs) lawEv 2130220 lawBody lawFn 17 100000 places147 exc147 p = true :=
  (fun p h => by cases h)
theorem places147_paths : ∀ p ∈ places147, pathsOk p.stk :=
  (fun p h => by cases h)
theorem exc147_no : ∀ q ∈ exc147, ∀ i, ¬ Holds i q := by intro q hq; cases hq
def places163 : List Sx.Place := []
def lawPc163 : Pc := [((.lt (.var 4 (.negSucc 9223372036854775807) 9223372036854775807) (.lit 0)), true), ((.eq (.var 0 0 255) (.lit 76)), true), ((.eq (.var 0 0 255) (.lit 75)), false), ((.eq (.var 0 0 255) (.lit 74)), false), ((.eq (.var 0 0 255) (.lit 73)), false), ((.eq (.var 0 0 255) (.lit 72)), false), ((.lt (.var 0 0 255) (.lit 78)), true), ((.lt (.var 0 0 255) (.lit 72)), false), ((.lt (.var 0 0 255) (.lit 66)), false), ((.lt (.var 0 0 255) (.lit 60)), false), ((.lt (.var 0 0 255) (.lit 54)), false), ((.lt (.var 0 0 255) (.lit 48)), false), ((.lt (.var 0 0 255) (.lit 42)), false), ((.lt (.var 0 0 255) (.lit 36)), false), ((.lt (.var 0 0 255) (.lit 30)), false), ((.lt (.var 0 0 255) (.lit 24)), false), ((.lt (.var 0 0 255) (.lit 18)), false), ((.lt (.var 0 0 255) (.lit 12)), false), ((.lt (.var 0 0 255) (.lit 6)), false)]
def exc163 : List Pc := []
theorem start163_yes : startYes Tryd.prog (tabGlob tabs) lawEv 2130220 lawBody lawFn 17 100000 places163 exc163 (psV lawPs 0) (stTab tabs lawPc163) = true := by kernel_rfl
theorem places163_yes : ∀ p ∈ places163, placeYes Tryd.prog (tabGlob tabs) lawEv 2130220 lawBody lawFn 17 100000 places163 exc163 p = true :=
  (fun p h => by cases h)
theorem places163_paths : ∀ p ∈ places163, pathsOk p.stk :=
  (fun p h => by cases h)
theorem exc163_no : ∀ q ∈ exc163, ∀ i, ¬ Holds i q := by intro q hq; cases hq
def places179 : List Sx.Place := []
def lawPc179 : Pc := [((.eq (.var 4 (.negSucc 9223372036854775807) 9223372036854775807) (.lit 0)), true), ((.lt (.var 4 (.negSucc 9223372036854775807) 9223372036854775807) (.lit 0)), false), ((.eq (.var 0 0 255) (.lit 81)), true), ((.eq (.var 0 0 255) (.lit 80)), false), ((.eq (.var 0 0 255) (.lit 79)), false), ((.eq (.var 0 0 255) (.lit 78)), false), ((.lt (.var 0 0 255) (.lit 84)), true), ((.lt (.var 0 0 255) (.lit 78)), false), ((.lt (.var 0 0 255) (.lit 72)), false), ((.lt (.var 0 0 255) (.lit 66)), false), ((.lt (.var 0 0 255) (.lit 60)), false), ((.lt (.var 0 0 255) (.lit 54)), false), ((.lt (.var 0 0 255) (.lit 48)), false), ((.lt (.var 0 0 255) (.lit 42)), false), ((.lt (.var 0 0 255) (.lit 36)), false), ((.lt (.var 0 0 255) (.lit 30)), false), ((.lt (.var 0 0 255) (.lit 24)), false), ((.lt (.var 0 0 255) (.lit 18)), false), ((.lt (.var 0 0 255) (.lit 12)), false), ((.lt (.var 0 0 255) (.lit 6)), false)]
def exc179 : List Pc := []
theorem start179_yes : startYes Tryd.prog (tabGlob tabs) lawEv 2130220 lawBody lawFn 17 100000 places179 exc179 (psV lawPs 0) (stTab tabs lawPc179) = true := by kernel_rfl
theorem places179_yes : ∀ p ∈ places179, placeYes Tryd.prog (tabGlob tabs) lawEv 2130220 lawBody lawFn 17 100000 places179 exc179 p = true :=
  (fun p h => by cases h)
theorem places179_paths : ∀ p ∈ places179, pathsOk p.stk :=
  (fun p h => by cases h)
theorem exc179_no : ∀ q ∈ exc179, ∀ i, ¬ Holds i q := by intro q hq; cases hq
def places195 : List Sx.Place := []
def lawPc195 : Pc := [((.eq (.var 4 (.negSucc 9223372036854775807) 9223372036854775807) (.lit 0)), false), ((.lt (.var 4 (.negSucc 9223372036854775807) 9223372036854775807) (.lit 0)), false), ((.eq (.var 0 0 255) (.lit 86)), true), ((.eq (.var 0 0 255) (.lit 85)), false), ((.eq (.var 0 0 255) (.lit 84)), false), ((.lt (.var 0 0 255) (.lit 90)), true), ((.lt (.var 0 0 255) (.lit 84)), false), ((.lt (.var 0 0 255) (.lit 78)), false), ((.lt (.var 0 0 255) (.lit 72)), false), ((.lt (.var 0 0 255) (.lit 66)), false), ((.lt (.var 0 0 255) (.lit 60)), false), ((.lt (.var 0 0 255) (.lit 54)), false), ((.lt (.var 0 0 255) (.lit 48)), false), ((.lt (.var 0 0 255) (.lit 42)), false), ((.lt (.var 0 0 255) (.lit 36)), false), ((.lt (.var 0 0 255) (.lit 30)), false), ((.lt (.var 0 0 255) (.lit 24)), false), ((.lt (.var 0 0 255) (.lit 18)), false), ((.lt (.var 0 0 255) (.lit 12)), false), ((.lt (.var 0 0 255) (.lit 6)), false)]
def exc195 : List Pc := []
theorem start195_yes : startYes Tryd.prog (tabGlob tabs) lawEv 2130220 lawBody lawFn 17 100000 places195 exc195 (psV lawPs 0) (stTab tabs lawPc195) = true := by kernel_rfl
theorem places195_yes : ∀ p ∈ places195, placeYes Tryd.prog (tabGlob tabs) lawEv 2130220 lawBody lawFn 17 100000 places195 exc195 p = true :=
  (fun p h => by cases h)
theorem places195_paths : ∀ p ∈ places195, pathsOk p.stk :=
  (fun p h => by cases h)
theorem exc195_no : ∀ q ∈ exc195, ∀ i, ¬ Holds i q := by intro q hq; cases hq
def places211 : List Sx.Place := []
def lawPc211 : Pc := [((.eq (.var 0 0 255) (.lit 92)), true), ((.eq (.var 0 0 255) (.lit 91)), false), ((.eq (.var 0 0 255) (.lit 90)), false), ((.lt (.var 0 0 255) (.lit 96)), true), ((.lt (.var 0 0 255) (.lit 90)), false), ((.lt (.var 0 0 255) (.lit 84)), false), ((.lt (.var 0 0 255) (.lit 78)), false), ((.lt (.var 0 0 255) (.lit 72)), false), ((.lt (.var 0 0 255) (.lit 66)), false), ((.lt (.var 0 0 255) (.lit 60)), false), ((.lt (.var 0 0 255) (.lit 54)), false), ((.lt (.var 0 0 255) (.lit 48)), false), ((.lt (.var 0 0 255) (.lit 42)), false), ((.lt (.var 0 0 255) (.lit 36)), false), ((.lt (.var 0 0 255) (.lit 30)), false), ((.lt (.var 0 0 255) (.lit 24)), false), ((.lt (.var 0 0 255) (.lit 18)), false), ((.lt (.var 0 0 255) (.lit 12)), false), ((.lt (.var 0 0 255) (.lit 6)), false)]
def exc211 : List Pc := []
theorem start211_yes : startYes Tryd.prog (tabGlob tabs) lawEv 2130220 lawBody lawFn 17 100000 places211 exc211 (psV lawPs 0) (stTab tabs lawPc211) = true := by kernel_rfl
theorem places211_yes : ∀ p ∈ places211, placeYes Tryd.prog (tabGlob tabs) lawEv 2130220 lawBody lawFn 17 100000 places211 exc211 p = true :=
  (fun p h => by cases h)
theorem places211_paths : ∀ p ∈ places211, pathsOk p.stk :=
  (fun p h => by cases h)
theorem exc211_no : ∀ q ∈ exc211, ∀ i, ¬ Holds i q := by intro q hq; cases hq
def places227 : List Sx.Place := []
def lawPc227 : Pc := [((.eq (.var 4 (.negSucc 9223372036854775807) 9223372036854775807) (.lit 0)), true), ((.lt (.var 4 (.negSucc 9223372036854775807) 9223372036854775807) (.lit 0)), false), ((.lt (.var 0 0 255) (.lit 99)), false), ((.lt (.var 0 0 255) (.lit 96)), false), ((.lt (.var 0 0 255) (.lit 90)), false), ((.lt (.var 0 0 255) (.lit 84)), false), ((.lt (.var 0 0 255) (.lit 78)), false), ((.lt (.var 0 0 255) (.lit 72)), false), ((.lt (.var 0 0 255) (.lit 66)), false), ((.lt (.var 0 0 255) (.lit 60)), false), ((.lt (.var 0 0 255) (.lit 54)), false), ((.lt (.var 0 0 255) (.lit 48)), false), ((.lt (.var 0 0 255) (.lit 42)), false), ((.lt (.var 0 0 255) (.lit 36)), false), ((.lt (.var 0 0 255) (.lit 30)), false), ((.lt (.var 0 0 255) (.lit 24)), false), ((.lt (.var 0 0 255) (.lit 18)), false), ((.lt (.var 0 0 255) (.lit 12)), false), ((.lt (.var 0 0 255) (.lit 6)), false)]
def exc227 : List Pc := []
theorem start227_yes : startYes Tryd.prog (tabGlob tabs) lawEv 2130220 lawBody lawFn 17 100000 places227 exc227 (psV lawPs 0) (stTab tabs lawPc227) = true := by kernel_rfl
theorem places227_yes : ∀ p ∈ places227, placeYes Tryd.prog (tabGlob tabs) lawEv 2130220 lawBody lawFn 17 100000 places227 exc227 p = true :=
  (fun p h => by cases h)
theorem places227_paths : ∀ p ∈ places227, pathsOk p.stk :=
  (fun p h => by cases h)
theorem exc227_no : ∀ q ∈ exc227, ∀ i, ¬ Holds i q := by intro q hq; cases hq
end
end Go.Proofs.YtjlfojjkdeflpaaDoor.Sx
