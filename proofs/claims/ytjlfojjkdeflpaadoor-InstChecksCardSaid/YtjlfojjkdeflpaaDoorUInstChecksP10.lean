/- InstChecks: a part of its cases. -/
import Derived.Test.YtjlfojjkdeflpaaDoorUInstChecks
set_option linter.unusedVariables false
set_option linter.unusedSimpArgs false
namespace Go.Proofs.YtjlfojjkdeflpaaDoor.Sx
open Go
noncomputable section
set_option maxRecDepth 100000
def places10 : List Sx.Place := []
def lawPc10 : Pc := [((.eq (.var 0 0 255) (.lit 10)), true), ((.eq (.var 0 0 255) (.lit 9)), false), ((.eq (.var 0 0 255) (.lit 8)), false), ((.eq (.var 0 0 255) (.lit 7)), false), ((.eq (.var 0 0 255) (.lit 6)), false), ((.lt (.var 0 0 255) (.lit 12)), true), ((.lt (.var 0 0 255) (.lit 6)), false)]
def exc10 : List Pc := []
theorem start10_yes : startYes Tryd.prog (tabGlob tabs) lawEv 2130220 lawBody lawFn 17 100000 places10 exc10 (psV lawPs 0) (stTab tabs lawPc10) = true := by kernel_rfl
theorem places10_yes : ∀ p ∈ places10, placeYes Tryd.prog (tabGlob tabs) lawEv 2130220 lawBody lawFn 17 100000 places10 exc10 p = true :=
  (fun p h => by cases h)
theorem places10_paths : ∀ p ∈ places10, pathsOk p.stk :=
  (fun p h => by cases h)
theorem exc10_no : ∀ q ∈ exc10, ∀ i, ¬ Holds i q := by intro q hq; cases hq
def places26 : List Sx.Place := []
def lawPc26 : Pc := [((.lt (.var 1 0 255) (.lit 32)), false), ((.eq (.var 0 0 255) (.lit 22)), false), ((.eq (.var 0 0 255) (.lit 21)), false), ((.eq (.var 0 0 255) (.lit 20)), false), ((.eq (.var 0 0 255) (.lit 19)), false), ((.eq (.var 0 0 255) (.lit 18)), false), ((.lt (.var 0 0 255) (.lit 24)), true), ((.lt (.var 0 0 255) (.lit 18)), false), ((.lt (.var 0 0 255) (.lit 12)), false), ((.lt (.var 0 0 255) (.lit 6)), false)]
def exc26 : List Pc := []
theorem start26_yes : startYes Tryd.prog (tabGlob tabs) lawEv 2130220 lawBody lawFn 17 100000 places26 exc26 (psV lawPs 0) (stTab tabs lawPc26) = true := by kernel_rfl
theorem places26_yes : ∀ p ∈ places26, placeYes Tryd.prog (tabGlob tabs) lawEv 2130220 lawBody lawFn 17 100000 places26 exc26 p = true :=
  (fun p h => by cases h)
theorem places26_paths : ∀ p ∈ places26, pathsOk p.stk :=
  (fun p h => by cases h)
theorem exc26_no : ∀ q ∈ exc26, ∀ i, ¬ Holds i q := by intro q hq; cases hq
def places42 : List Sx.Place := []
def lawPc42 : Pc := [((.lt (.var 4 (.negSucc 9223372036854775807) 9223372036854775807) (.lit 0)), true), ((.eq (.var 0 0 255) (.lit 33)), true), ((.eq (.var 0 0 255) (.lit 32)), false), ((.eq (.var 0 0 255) (.lit 31)), false), ((.eq (.var 0 0 255) (.lit 30)), false), ((.lt (.var 0 0 255) (.lit 36)), true), ((.lt (.var 0 0 255) (.lit 30)), false), ((.lt (.var 0 0 255) (.lit 24)), false), ((.lt (.var 0 0 255) (.lit 18)), false), ((.lt (.var 0 0 255) (.lit 12)), false), ((.lt (.var 0 0 255) (.lit 6)), false)]
def exc42 : List Pc := []
theorem start42_yes : startYes Tryd.prog (tabGlob tabs) lawEv 2130220 lawBody lawFn 17 100000 places42 exc42 (psV lawPs 0) (stTab tabs lawPc42) = true := by kernel_rfl
theorem places42_yes : ∀ p ∈ places42, placeYes Tryd.prog (tabGlob tabs) lawEv 2130220 lawBody lawFn 17 100000 places42 exc42 p = true :=
  (fun p h => by cases h)
theorem places42_paths : ∀ p ∈ places42, pathsOk p.stk :=
  (fun p h => by cases h)
theorem exc42_no : ∀ q ∈ exc42, ∀ i, ¬ Holds i q := by intro q hq; cases hq
def places58 : List Sx.Place := []
def lawPc58 : Pc := [((.eq (.var 4 (.negSucc 9223372036854775807) 9223372036854775807) (.lit 0)), true), ((.lt (.var 4 (.negSucc 9223372036854775807) 9223372036854775807) (.lit 0)), false), ((.eq (.var 0 0 255) (.lit 38)), true), ((.eq (.var 0 0 255) (.lit 37)), false), ((.eq (.var 0 0 255) (.lit 36)), false), ((.lt (.var 0 0 255) (.lit 42)), true), ((.lt (.var 0 0 255) (.lit 36)), false), ((.lt (.var 0 0 255) (.lit 30)), false), ((.lt (.var 0 0 255) (.lit 24)), false), ((.lt (.var 0 0 255) (.lit 18)), false), ((.lt (.var 0 0 255) (.lit 12)), false), ((.lt (.var 0 0 255) (.lit 6)), false)]
def exc58 : List Pc := []
theorem start58_yes : startYes Tryd.prog (tabGlob tabs) lawEv 2130220 lawBody lawFn 17 100000 places58 exc58 (psV lawPs 0) (stTab tabs lawPc58) = true := by kernel_rfl
theorem places58_yes : ∀ p ∈ places58, placeYes Tryd.prog (tabGlob tabs) lawEv 2130220 lawBody lawFn 17 100000 places58 exc58 p = true :=
  (fun p h => by cases h)
theorem places58_paths : ∀ p ∈ places58, pathsOk p.stk :=
  (fun p h => by cases h)
theorem exc58_no : ∀ q ∈ exc58, ∀ i, ¬ Holds i q := by intro q hq; cases hq
def places74 : List Sx.Place := []
def lawPc74 : Pc := [((.eq (.var 4 (.negSucc 9223372036854775807) 9223372036854775807) (.lit 0)), true), ((.lt (.var 4 (.negSucc 9223372036854775807) 9223372036854775807) (.lit 0)), false), ((.eq (.var 0 0 255) (.lit 46)), true), ((.eq (.var 0 0 255) (.lit 45)), false), ((.eq (.var 0 0 255) (.lit 44)), false), ((.eq (.var 0 0 255) (.lit 43)), false), ((.eq (.var 0 0 255) (.lit 42)), false), ((.lt (.var 0 0 255) (.lit 48)), true), ((.lt (.var 0 0 255) (.lit 42)), false), ((.lt (.var 0 0 255) (.lit 36)), false), ((.lt (.var 0 0 255) (.lit 30)), false), ((.lt (.var 0 0 255) (.lit 24)), false), ((.lt (.var 0 0 255) (.lit 18)), false), ((.lt (.var 0 0 255) (.lit 12)), false), ((.lt (.var 0 0 255) (.lit 6)), false)]
def exc74 : List Pc := []
theorem start74_yes : startYes Tryd.prog (tabGlob tabs) lawEv 2130220 lawBody lawFn 17 100000 places74 exc74 (psV lawPs 0) (stTab tabs lawPc74) = true := by kernel_rfl
theorem places74_yes : ∀ p ∈ places74, placeYes Tryd.prog (tabGlob tabs) lawEv 2130220 lawBody lawFn 17 100000 places74 exc74 p = true :=
  (fun p h => by cases h)
theorem places74_paths : ∀ p ∈ places74, pathsOk p.stk :=
  (fun p h => by cases h)
theorem exc74_no : ∀ q ∈ exc74, ∀ i, ¬ Holds i q := by intro q hq; cases hq
def places90 : List Sx.Place := []
def lawPc90 : Pc := [((.eq (.var 4 (.negSucc 9223372036854775807) 9223372036854775807) (.lit 0)), false), ((.lt (.var 4 (.negSucc 9223372036854775807) 9223372036854775807) (.lit 0)), false), ((.eq (.var 0 0 255) (.lit 51)), true), ((.eq (.var 0 0 255) (.lit 50)), false), ((.eq (.var 0 0 255) (.lit 49)), false), ((.eq (.var 0 0 255) (.lit 48)), false), ((.lt (.var 0 0 255) (.lit 54)), true), ((.lt (.var 0 0 255) (.lit 48)), false), ((.lt (.var 0 0 255) (.lit 42)), false), ((.lt (.var 0 0 255) (.lit 36)), false), ((.lt (.var 0 0 255) (.lit 30)), false), ((.lt (.var 0 0 255) (.lit 24)), false), ((.lt (.var 0 0 255) (.lit 18)), false), ((.lt (.var 0 0 255) (.lit 12)), false), ((.lt (.var 0 0 255) (.lit 6)), false)]
def exc90 : List Pc := []
theorem start90_yes : startYes Tryd.prog (tabGlob tabs) lawEv 2130220 lawBody lawFn 17 100000 places90 exc90 (psV lawPs 0) (stTab tabs lawPc90) = true := by kernel_rfl
theorem places90_yes : ∀ p ∈ places90, placeYes Tryd.prog (tabGlob tabs) lawEv 2130220 lawBody lawFn 17 100000 places90 exc90 p = true :=
  (fun p h => by cases h)
theorem places90_paths : ∀ p ∈ places90, pathsOk p.stk :=
  (fun p h => by cases h)
theorem exc90_no : ∀ q ∈ exc90, ∀ i, ¬ Holds i q := by intro q hq; cases hq
def places106 : List Sx.Place := []
def lawPc106 : Pc := [((.lt (.var 4 (.negSucc 9223372036854775807) 9223372036854775807) (.lit 0)), true), ((.eq (.var 0 0 255) (.lit 57)), true), ((.eq (.var 0 0 255) (.lit 56)), false), ((.eq (.var 0 0 255) (.lit 55)), false), ((.eq (.var 0 0 255) (.lit 54)), false), ((.lt (.var 0 0 255) (.lit 60)), true), ((.lt (.var 0 0 255) (.lit 54)), false), ((.lt (.var 0 0 255) (.lit 48)), false), ((.lt (.var 0 0 255) (.lit 42)), false), ((.lt (.var 0 0 255) (.lit 36)), false), ((.lt (.var 0 0 255) (.lit 30)), false), ((.lt (.var 0 0 255) (.lit 24)), false), ((.lt (.var 0 0 255) (.lit 18)), false), ((.lt (.var 0 0 255) (.lit 12)), false), ((.lt (.var 0 0 255) (.lit 6)), false)]
def exc106 : List Pc := []
theorem start106_yes : startYes Tryd.prog (tabGlob tabs) lawEv 2130220 lawBody lawFn 17 100000 places106 exc106 (psV lawPs 0) (stTab tabs lawPc106) = true := by kernel_rfl
theorem places106_yes : ∀ p ∈ places106, placeYes Tryd.prog (tabGlob tabs) lawEv 2130220 lawBody lawFn 17 100000 places106 exc106 p = true :=
  (fun p h => by cases h)
theorem places106_paths : ∀ p ∈ places106, pathsOk p.stk :=
  (fun p h => by cases h)
theorem exc106_no : ∀ q ∈ exc106, ∀ i, ¬ Holds i q := by intro q hq; cases hq
def places122 : List Sx.Place := []
def lawPc122 : Pc := [((.eq (.var 4 (.negSucc 9223372036854775807) 9223372036854775807) (.lit 0)), true), ((.lt (.var 4 (.negSucc 9223372036854775807) 9223372036854775807) (.lit 0)), false), ((.eq (.var 0 0 255) (.lit 62)), true), ((.eq (.var 0 0 255) (.lit 61)), false), ((.eq (.var 0 0 255) (.lit 60)), false), ((.lt (.var 0 0 255) (.lit 66)), true), ((.lt (.var 0 0 255) (.lit 60)), false), ((.lt (.var 0 0 255) (.lit 54)), false), ((.lt (.var 0 0 255) (.lit 48)), false), ((.lt (.var 0 0 255) (.lit 42)), false), ((.lt (.var 0 0 255) (.lit 36)), false), ((.lt (.var 0 0 255) (.lit 30)), false), ((.lt (.var 0 0 255) (.lit 24)), false), ((.lt (.var 0 0 255) (.lit 18)), false), ((.lt (.var 0 0 255) (.lit 12)), false), ((.lt (.var 0 0 255) (.lit 6)), false)]
def exc122 : List Pc := []
theorem start122_yes : startYes Tryd.prog (tabGlob tabs) lawEv 2130220 lawBody lawFn 17 100000 places122 exc122 (psV lawPs 0) (stTab tabs lawPc122) = true := by kernel_rfl
theorem places122_yes : ∀ p ∈ places122, placeYes Tryd.prog (tabGlob tabs) lawEv 2130220 lawBody lawFn 17 100000 places122 exc122 p = true :=
  (fun p h => by cases h)
theorem places122_paths : ∀ p ∈ places122, pathsOk p.stk :=
  (fun p h => by cases h)
theorem exc122_no : ∀ q ∈ exc122, ∀ i, ¬ Holds i q := by intro q hq; cases hq
def places138 : List Sx.Place := []
def lawPc138 : Pc := [((.eq (.var 4 (.negSucc 9223372036854775807) 9223372036854775807) (.lit 0)), false), ((.lt (.var 4 (.negSucc 9223372036854775807) 9223372036854775807) (.lit 0)), false), ((.eq (.var 0 0 255) (.lit 67)), true), ((.eq (.var 0 0 255) (.lit 66)), false), ((.lt (.var 0 0 255) (.lit 72)), true), ((.lt (.var 0 0 255) (.lit 66)), false), ((.lt (.var 0 0 255) (.lit 60)), false), ((.lt (.var 0 0 255) (.lit 54)), false), ((.lt (.var 0 0 255) (.lit 48)), false), ((.lt (.var 0 0 255) (.lit 42)), false), ((.lt (.var 0 0 255) (.lit 36)), false), ((.lt (.var 0 0 255) (.lit 30)), false), ((.lt (.var 0 0 255) (.lit 24)), false), ((.lt (.var 0 0 255) (.lit 18)), false), ((.lt (.var 0 0 255) (.lit 12)), false), ((.lt (.var 0 0 255) (.lit 6)), false)]
def exc138 : List Pc := []
theorem start138_yes : startYes Tryd.prog (tabGlob tabs) lawEv 2130220 lawBody lawFn 17 100000 places138 exc138 (psV lawPs 0) (stTab tabs lawPc138) = true := by kernel_rfl
theorem places138_yes : ∀ p ∈ places138, placeYes Tryd.prog (tabGlob tabs) lawEv 2130220 lawBody lawFn 17 100000 places138 exc138 p = true :=
  (fun p h => by cases h)
theorem places138_paths : ∀ p ∈ places138, pathsOk p.stk :=
  (fun p h => by cases h)
theorem exc138_no : ∀ q ∈ exc138, ∀ i, ¬ Holds i q := by intro q hq; cases hq
def places154 : List Sx.Place := []
def lawPc154 : Pc := [((.lt (.var 4 (.negSucc 9223372036854775807) 9223372036854775807) (.lit 0)), true), ((.eq (.var 0 0 255) (.lit 73)), true), ((.eq (.var 0 0 255) (.lit 72)), false), ((.lt (.var 0 0 255) (.lit 78)), true), ((.lt (.var 0 0 255) (.lit 72)), false), ((.lt (.var 0 0 255) (.lit 66)), false), ((.lt (.var 0 0 255) (.lit 60)), false), ((.lt (.var 0 0 255) (.lit 54)), false), ((.lt (.var 0 0 255) (.lit 48)), false), ((.lt (.var 0 0 255) (.lit 42)), false), ((.lt (.var 0 0 255) (.lit 36)), false), ((.lt (.var 0 0 255) (.lit 30)), false), ((.lt (.var 0 0 255) (.lit 24)), false), ((.lt (.var 0 0 255) (.lit 18)), false), ((.lt (.var 0 0 255) (.lit 12)), false), ((.lt (.var 0 0 255) (.lit 6)), false)]
def exc154 : List Pc := []
theorem start154_yes : startYes Tryd.prog (tabGlob tabs) lawEv 2130220 lawBody lawFn 17 100000 places154 exc154 (psV lawPs 0) (stTab tabs lawPc154) = true := by kernel_rfl
theorem places154_yes : ∀ p ∈ places154, placeYes Tryd.prog (tabGlob tabs) lawEv 2130220 lawBody lawFn 17 100000 places154 exc154 p = true :=
  (fun p h => by cases h)
theorem places154_paths : ∀ p ∈ places154, pathsOk p.stk :=
  (fun p h => by cases h)
theorem exc154_no : ∀ q ∈ exc154, ∀ i, ¬ Holds i q := by intro q hq; cases hq
def places170 : List Sx.Place := []
def lawPc170 : Pc := [((.eq (.var 4 (.negSucc 9223372036854775807) 9223372036854775807) (.lit 0)), true), ((.lt (.var 4 (.negSucc 9223372036854775807) 9223372036854775807) (.lit 0)), false), ((.eq (.var 0 0 255) (.lit 78)), true), ((.lt (.var 0 0 255) (.lit 84)), true), ((.lt (.var 0 0 255) (.lit 78)), false), ((.lt (.var 0 0 255) (.lit 72)), false), ((.lt (.var 0 0 255) (.lit 66)), false), ((.lt (.var 0 0 255) (.lit 60)), false), ((.lt (.var 0 0 255) (.lit 54)), false), ((.lt (.var 0 0 255) (.lit 48)), false), ((.lt (.var 0 0 255) (.lit 42)), false), ((.lt (.var 0 0 255) (.lit 36)), false), ((.lt (.var 0 0 255) (.lit 30)), false), ((.lt (.var 0 0 255) (.lit 24)), false), ((.lt (.var 0 0 255) (.lit 18)), false), ((.lt (.var 0 0 255) (.lit 12)), false), ((.lt (.var 0 0 255) (.lit 6)), false)]
def exc170 : List Pc := []
theorem start170_yes : startYes Tryd.prog (tabGlob tabs) lawEv 2130220 lawBody lawFn 17 100000 places170 exc170 (psV lawPs 0) (stTab tabs lawPc170) = true := by kernel_rfl
theorem places170_yes : ∀ p ∈ places170, placeYes Tryd.prog (tabGlob tabs) lawEv 2130220 lawBody lawFn 17 100000 places170 exc170 p = true :=
  (fun p h => by cases h)
theorem places170_paths : ∀ p ∈ places170, pathsOk p.stk :=
  (fun p h => by cases h)
theorem exc170_no : ∀ q ∈ exc170, ∀ i, ¬ Holds i q := by intro q hq; cases hq
def places186 : List Sx.Place := []
def lawPc186 : Pc := [((.eq (.var 4 (.negSucc 9223372036854775807) 9223372036854775807) (.lit 0)), false), ((.lt (.var 4 (.negSucc 9223372036854775807) 9223372036854775807) (.lit 0)), false), ((.eq (.var 0 0 255) (.lit 82)), false), ((.eq (.var 0 0 255) (.lit 81)), false), ((.eq (.var 0 0 255) (.lit 80)), false), ((.eq (.var 0 0 255) (.lit 79)), false), ((.eq (.var 0 0 255) (.lit 78)), false), ((.lt (.var 0 0 255) (.lit 84)), true), ((.lt (.var 0 0 255) (.lit 78)), false), ((.lt (.var 0 0 255) (.lit 72)), false), ((.lt (.var 0 0 255) (.lit 66)), false), ((.lt (.var 0 0 255) (.lit 60)), false), ((.lt (.var 0 0 255) (.lit 54)), false), ((.lt (.var 0 0 255) (.lit 48)), false), ((.lt (.var 0 0 255) (.lit 42)), false), ((.lt (.var 0 0 255) (.lit 36)), false), ((.lt (.var 0 0 255) (.lit 30)), false), ((.lt (.var 0 0 255) (.lit 24)), false), ((.lt (.var 0 0 255) (.lit 18)), false), ((.lt (.var 0 0 255) (.lit 12)), false), ((.lt (.var 0 0 255) (.lit 6)), false)]
def exc186 : List Pc := []
theorem start186_yes : startYes Tryd.prog (tabGlob tabs) lawEv 2130220 lawBody lawFn 17 100000 places186 exc186 (psV lawPs 0) (stTab tabs lawPc186) = true := by kernel_rfl
theorem places186_yes : ∀ p ∈ places186, placeYes Tryd.prog (tabGlob tabs) lawEv 2130220 lawBody lawFn 17 100000 places186 exc186 p = true :=
  (fun p h => by cases h)
theorem places186_paths : ∀ p ∈ places186, pathsOk p.stk :=
  (fun p h => by cases h)
theorem exc186_no : ∀ q ∈ exc186, ∀ i, ¬ Holds i q := by intro q hq; cases hq
def places202 : List Sx.Place := []
def lawPc202 : Pc := [((.lt (.var 4 (.negSucc 9223372036854775807) 9223372036854775807) (.lit 0)), true), ((.eq (.var 0 0 255) (.lit 88)), false), ((.eq (.var 0 0 255) (.lit 87)), false), ((.eq (.var 0 0 255) (.lit 86)), false), ((.eq (.var 0 0 255) (.lit 85)), false), ((.eq (.var 0 0 255) (.lit 84)), false), ((.lt (.var 0 0 255) (.lit 90)), true), ((.lt (.var 0 0 255) (.lit 84)), false), ((.lt (.var 0 0 255) (.lit 78)), false), ((.lt (.var 0 0 255) (.lit 72)), false), ((.lt (.var 0 0 255) (.lit 66)), false), ((.lt (.var 0 0 255) (.lit 60)), false), ((.lt (.var 0 0 255) (.lit 54)), false), ((.lt (.var 0 0 255) (.lit 48)), false), ((.lt (.var 0 0 255) (.lit 42)), false), ((.lt (.var 0 0 255) (.lit 36)), false), ((.lt (.var 0 0 255) (.lit 30)), false), ((.lt (.var 0 0 255) (.lit 24)), false), ((.lt (.var 0 0 255) (.lit 18)), false), ((.lt (.var 0 0 255) (.lit 12)), false), ((.lt (.var 0 0 255) (.lit 6)), false)]
def exc202 : List Pc := []
theorem start202_yes : startYes Tryd.prog (tabGlob tabs) lawEv 2130220 lawBody lawFn 17 100000 places202 exc202 (psV lawPs 0) (stTab tabs lawPc202) = true := by kernel_rfl
theorem places202_yes : ∀ p ∈ places202, placeYes Tryd.prog (tabGlob tabs) lawEv 2130220 lawBody lawFn 17 100000 places202 exc202 p = true :=
  (fun p h => by cases h)
theorem places202_paths : ∀ p ∈ places202, pathsOk p.stk :=
  (fun p h => by cases h)
theorem exc202_no : ∀ q ∈ exc202, ∀ i, ¬ Holds i q := by intro q hq; cases hq
def places218 : List Sx.Place := []
def lawPc218 : Pc := [((.eq (.var 4 (.negSucc 9223372036854775807) 9223372036854775807) (.lit 0)), true), ((.lt (.var 4 (.negSucc 9223372036854775807) 9223372036854775807) (.lit 0)), false), ((.eq (.var 0 0 255) (.lit 96)), true), ((.lt (.var 0 0 255) (.lit 99)), true), ((.lt (.var 0 0 255) (.lit 96)), false), ((.lt (.var 0 0 255) (.lit 90)), false), ((.lt (.var 0 0 255) (.lit 84)), false), ((.lt (.var 0 0 255) (.lit 78)), false), ((.lt (.var 0 0 255) (.lit 72)), false), ((.lt (.var 0 0 255) (.lit 66)), false), ((.lt (.var 0 0 255) (.lit 60)), false), ((.lt (.var 0 0 255) (.lit 54)), false), ((.lt (.var 0 0 255) (.lit 48)), false), ((.lt (.var 0 0 255) (.lit 42)), false), ((.lt (.var 0 0 255) (.lit 36)), false), ((.lt (.var 0 0 255) (.lit 30)), false), ((.lt (.var 0 0 255) (.lit 24)), false), ((.lt (.var 0 0 255) (.lit 18)), false), ((.lt (.var 0 0 255) (.lit 12)), false), ((.lt (.var 0 0 255) (.lit 6)), false)]
def exc218 : List Pc := []
theorem start218_yes : startYes Tryd.prog (tabGlob tabs) lawEv 2130220 lawBody lawFn 17 100000 places218 exc218 (psV lawPs 0) (stTab tabs lawPc218) = true := by kernel_rfl
theorem places218_yes : ∀ p ∈ places218, placeYes Tryd.prog (tabGlob tabs) lawEv 2130220 lawBody lawFn 17 100000 places218 exc218 p = true :=
  (fun p h => by cases h)
theorem places218_paths : ∀ p ∈ places218, pathsOk p.stk :=
  (fun p h => by cases h)
theorem exc218_no : ∀ q ∈ exc218, ∀ i, ¬ Holds i q := by intro q hq; cases hq
end
end Go.Proofs.YtjlfojjkdeflpaaDoor.Sx
