/- InstChecks: a part of its cases. -/
import Derived.Test.YtjlfojjkdeflpaaDoorUInstChecks
set_option linter.unusedVariables false
set_option linter.unusedSimpArgs false
namespace Go.Proofs.YtjlfojjkdeflpaaDoor.Sx
open Go
noncomputable section
set_option maxRecDepth 100000
def places2 : List Sx.Place := []
def lawPc2 : Pc := [((.eq (.var 0 0 255) (.lit 2)), true), ((.eq (.var 0 0 255) (.lit 1)), false), ((.eq (.var 0 0 255) (.lit 0)), false), ((.lt (.var 0 0 255) (.lit 6)), true)]
def exc2 : List Pc := []
theorem start2_yes : startYes Tryd.prog (tabGlob tabs) lawEv 2130220 lawBody lawFn 17 100000 places2 exc2 (psV lawPs 0) (stTab tabs lawPc2) = true := by kernel_rfl
theorem places2_yes : ∀ p ∈ places2, placeYes Tryd.prog (tabGlob tabs) lawEv 2130220 lawBody lawFn 17 100000 places2 exc2 p = true :=
  (fun p h => by cases h)
theorem places2_paths : ∀ p ∈ places2, pathsOk p.stk :=
  (fun p h => by cases h)
theorem exc2_no : ∀ q ∈ exc2, ∀ i, ¬ Holds i q := by intro q hq; cases hq
def places18 : List Sx.Place := []
def lawPc18 : Pc := [((.eq (.var 0 0 255) (.lit 17)), true), ((.eq (.var 0 0 255) (.lit 16)), false), ((.eq (.var 0 0 255) (.lit 15)), false), ((.eq (.var 0 0 255) (.lit 14)), false), ((.eq (.var 0 0 255) (.lit 13)), false), ((.eq (.var 0 0 255) (.lit 12)), false), ((.lt (.var 0 0 255) (.lit 18)), true), ((.lt (.var 0 0 255) (.lit 12)), false), ((.lt (.var 0 0 255) (.lit 6)), false)]
def exc18 : List Pc := []
theorem start18_yes : startYes Tryd.prog (tabGlob tabs) lawEv 2130220 lawBody lawFn 17 100000 places18 exc18 (psV lawPs 0) (stTab tabs lawPc18) = true := by kernel_rfl
theorem places18_yes : ∀ p ∈ places18, placeYes Tryd.prog (tabGlob tabs) lawEv 2130220 lawBody lawFn 17 100000 places18 exc18 p = true :=
  (fun p h => by cases h)
theorem places18_paths : ∀ p ∈ places18, pathsOk p.stk :=
  (fun p h => by cases h)
theorem exc18_no : ∀ q ∈ exc18, ∀ i, ¬ Holds i q := by intro q hq; cases hq
def places34 : List Sx.Place := []
def lawPc34 : Pc := [((.eq (.var 0 0 255) (.lit 30)), true), ((.lt (.var 0 0 255) (.lit 36)), true), ((.lt (.var 0 0 255) (.lit 30)), false), ((.lt (.var 0 0 255) (.lit 24)), false), ((.lt (.var 0 0 255) (.lit 18)), false), ((.lt (.var 0 0 255) (.lit 12)), false), ((.lt (.var 0 0 255) (.lit 6)), false)]
def exc34 : List Pc := []
theorem start34_yes : startYes Tryd.prog (tabGlob tabs) lawEv 2130220 lawBody lawFn 17 100000 places34 exc34 (psV lawPs 0) (stTab tabs lawPc34) = true := by kernel_rfl
theorem places34_yes : ∀ p ∈ places34, placeYes Tryd.prog (tabGlob tabs) lawEv 2130220 lawBody lawFn 17 100000 places34 exc34 p = true :=
  (fun p h => by cases h)
theorem places34_paths : ∀ p ∈ places34, pathsOk p.stk :=
  (fun p h => by cases h)
theorem exc34_no : ∀ q ∈ exc34, ∀ i, ¬ Holds i q := by intro q hq; cases hq
def places50 : List Sx.Place := []
def lawPc50 : Pc := [((.eq (.var 4 (.negSucc 9223372036854775807) 9223372036854775807) (.lit 0)), false), ((.lt (.var 4 (.negSucc 9223372036854775807) 9223372036854775807) (.lit 0)), false), ((.eq (.var 0 0 255) (.lit 34)), false), ((.eq (.var 0 0 255) (.lit 33)), false), ((.eq (.var 0 0 255) (.lit 32)), false), ((.eq (.var 0 0 255) (.lit 31)), false), ((.eq (.var 0 0 255) (.lit 30)), false), ((.lt (.var 0 0 255) (.lit 36)), true), ((.lt (.var 0 0 255) (.lit 30)), false), ((.lt (.var 0 0 255) (.lit 24)), false), ((.lt (.var 0 0 255) (.lit 18)), false), ((.lt (.var 0 0 255) (.lit 12)), false), ((.lt (.var 0 0 255) (.lit 6)), false)]
def exc50 : List Pc := []
theorem start50_yes : startYes Tryd.prog (tabGlob tabs) lawEv 2130220 lawBody lawFn 17 100000 places50 exc50 (psV lawPs 0) (stTab tabs lawPc50) = true := by kernel_rfl
theorem places50_yes : ∀ p ∈ places50, placeYes Tryd.prog (tabGlob tabs) lawEv 2130220 lawBody lawFn 17 100000 places50 exc50 p = true :=
  (fun p h => by cases h)
theorem places50_paths : ∀ p ∈ places50, pathsOk p.stk :=
  (fun p h => by cases h)
theorem exc50_no : ∀ q ∈ exc50, ∀ i, ¬ Holds i q := by intro q hq; cases hq
def places66 : List Sx.Place := []
def lawPc66 : Pc := [((.eq (.var 0 0 255) (.lit 41)), true), ((.eq (.var 0 0 255) (.lit 40)), false), ((.eq (.var 0 0 255) (.lit 39)), false), ((.eq (.var 0 0 255) (.lit 38)), false), ((.eq (.var 0 0 255) (.lit 37)), false), ((.eq (.var 0 0 255) (.lit 36)), false), ((.lt (.var 0 0 255) (.lit 42)), true), ((.lt (.var 0 0 255) (.lit 36)), false), ((.lt (.var 0 0 255) (.lit 30)), false), ((.lt (.var 0 0 255) (.lit 24)), false), ((.lt (.var 0 0 255) (.lit 18)), false), ((.lt (.var 0 0 255) (.lit 12)), false), ((.lt (.var 0 0 255) (.lit 6)), false)]
def exc66 : List Pc := []
theorem start66_yes : startYes Tryd.prog (tabGlob tabs) lawEv 2130220 lawBody lawFn 17 100000 places66 exc66 (psV lawPs 0) (stTab tabs lawPc66) = true := by kernel_rfl
theorem places66_yes : ∀ p ∈ places66, placeYes Tryd.prog (tabGlob tabs) lawEv 2130220 lawBody lawFn 17 100000 places66 exc66 p = true :=
  (fun p h => by cases h)
theorem places66_paths : ∀ p ∈ places66, pathsOk p.stk :=
  (fun p h => by cases h)
theorem exc66_no : ∀ q ∈ exc66, ∀ i, ¬ Holds i q := by intro q hq; cases hq
def places82 : List Sx.Place := []
def lawPc82 : Pc := [((.lt (.var 4 (.negSucc 9223372036854775807) 9223372036854775807) (.lit 0)), true), ((.eq (.var 0 0 255) (.lit 49)), true), ((.eq (.var 0 0 255) (.lit 48)), false), ((.lt (.var 0 0 255) (.lit 54)), true), ((.lt (.var 0 0 255) (.lit 48)), false), ((.lt (.var 0 0 255) (.lit 42)), false), ((.lt (.var 0 0 255) (.lit 36)), false), ((.lt (.var 0 0 255) (.lit 30)), false), ((.lt (.var 0 0 255) (.lit 24)), false), ((.lt (.var 0 0 255) (.lit 18)), false), ((.lt (.var 0 0 255) (.lit 12)), false), ((.lt (.var 0 0 255) (.lit 6)), false)]
def exc82 : List Pc := []
theorem start82_yes : startYes Tryd.prog (tabGlob tabs) lawEv 2130220 lawBody lawFn 17 100000 places82 exc82 (psV lawPs 0) (stTab tabs lawPc82) = true := by kernel_rfl
theorem places82_yes : ∀ p ∈ places82, placeYes Tryd.prog (tabGlob tabs) lawEv 2130220 lawBody lawFn 17 100000 places82 exc82 p = true :=
  (fun p h => by cases h)
theorem places82_paths : ∀ p ∈ places82, pathsOk p.stk :=
  (fun p h => by cases h)
theorem exc82_no : ∀ q ∈ exc82, ∀ i, ¬ Holds i q := by intro q hq; cases hq
def places98 : List Sx.Place := []
def lawPc98 : Pc := [((.eq (.var 4 (.negSucc 9223372036854775807) 9223372036854775807) (.lit 0)), true), ((.lt (.var 4 (.negSucc 9223372036854775807) 9223372036854775807) (.lit 0)), false), ((.eq (.var 0 0 255) (.lit 54)), true), ((.lt (.var 0 0 255) (.lit 60)), true), ((.lt (.var 0 0 255) (.lit 54)), false), ((.lt (.var 0 0 255) (.lit 48)), false), ((.lt (.var 0 0 255) (.lit 42)), false), ((.lt (.var 0 0 255) (.lit 36)), false), ((.lt (.var 0 0 255) (.lit 30)), false), ((.lt (.var 0 0 255) (.lit 24)), false), ((.lt (.var 0 0 255) (.lit 18)), false), ((.lt (.var 0 0 255) (.lit 12)), false), ((.lt (.var 0 0 255) (.lit 6)), false)]
def exc98 : List Pc := []
theorem start98_yes : startYes Tryd.prog (tabGlob tabs) lawEv 2130220 lawBody lawFn 17 100000 places98 exc98 (psV lawPs 0) (stTab tabs lawPc98) = true := by kernel_rfl
theorem places98_yes : ∀ p ∈ places98, placeYes Tryd.prog (tabGlob tabs) lawEv 2130220 lawBody lawFn 17 100000 places98 exc98 p = true :=
  (fun p h => by cases h)
theorem places98_paths : ∀ p ∈ places98, pathsOk p.stk :=
  (fun p h => by cases h)
theorem exc98_no : ∀ q ∈ exc98, ∀ i, ¬ Holds i q := by intro q hq; cases hq
def places114 : List Sx.Place := []
def lawPc114 : Pc := [((.eq (.var 4 (.negSucc 9223372036854775807) 9223372036854775807) (.lit 0)), false), ((.lt (.var 4 (.negSucc 9223372036854775807) 9223372036854775807) (.lit 0)), false), ((.eq (.var 0 0 255) (.lit 58)), false), ((.eq (.var 0 0 255) (.lit 57)), false), ((.eq (.var 0 0 255) (.lit 56)), false), ((.eq (.var 0 0 255) (.lit 55)), false), ((.eq (.var 0 0 255) (.lit 54)), false), ((.lt (.var 0 0 255) (.lit 60)), true), ((.lt (.var 0 0 255) (.lit 54)), false), ((.lt (.var 0 0 255) (.lit 48)), false), ((.lt (.var 0 0 255) (.lit 42)), false), ((.lt (.var 0 0 255) (.lit 36)), false), ((.lt (.var 0 0 255) (.lit 30)), false), ((.lt (.var 0 0 255) (.lit 24)), false), ((.lt (.var 0 0 255) (.lit 18)), false), ((.lt (.var 0 0 255) (.lit 12)), false), ((.lt (.var 0 0 255) (.lit 6)), false)]
def exc114 : List Pc := []
theorem start114_yes : startYes Tryd.prog (tabGlob tabs) lawEv 2130220 lawBody lawFn 17 100000 places114 exc114 (psV lawPs 0) (stTab tabs lawPc114) = true := by kernel_rfl
theorem places114_yes : ∀ p ∈ places114, placeYes Tryd.prog (tabGlob tabs) lawEv 2130220 lawBody lawFn 17 100000 places114 exc114 p = true :=
  (fun p h => by cases h)
theorem places114_paths : ∀ p ∈ places114, pathsOk p.stk :=
  (fun p h => by cases h)
theorem exc114_no : ∀ q ∈ exc114, ∀ i, ¬ Holds i q := by intro q hq; cases hq
def places130 : List Sx.Place := []
def lawPc130 : Pc := [((.lt (.var 4 (.negSucc 9223372036854775807) 9223372036854775807) (.lit 0)), true), ((.eq (.var 0 0 255) (.lit 64)), false), ((.eq (.var 0 0 255) (.lit 63)), false), ((.eq (.var 0 0 255) (.lit 62)), false), ((.eq (.var 0 0 255) (.lit 61)), false), ((.eq (.var 0 0 255) (.lit 60)), false), ((.lt (.var 0 0 255) (.lit 66)), true), ((.lt (.var 0 0 255) (.lit 60)), false), ((.lt (.var 0 0 255) (.lit 54)), false), ((.lt (.var 0 0 255) (.lit 48)), false), ((.lt (.var 0 0 255) (.lit 42)), false), ((.lt (.var 0 0 255) (.lit 36)), false), ((.lt (.var 0 0 255) (.lit 30)), false), ((.lt (.var 0 0 255) (.lit 24)), false), ((.lt (.var 0 0 255) (.lit 18)), false), ((.lt (.var 0 0 255) (.lit 12)), false), ((.lt (.var 0 0 255) (.lit 6)), false)]
def exc130 : List Pc := []
theorem start130_yes : startYes Tryd.prog (tabGlob tabs) lawEv 2130220 lawBody lawFn 17 100000 places130 exc130 (psV lawPs 0) (stTab tabs lawPc130) = true := by kernel_rfl
theorem places130_yes : ∀ p ∈ places130, placeYes Tryd.prog (tabGlob tabs) lawEv 2130220 lawBody lawFn 17 100000 places130 exc130 p = true :=
  (fun p h => by cases h)
theorem places130_paths : ∀ p ∈ places130, pathsOk p.stk :=
  (fun p h => by cases h)
theorem exc130_no : ∀ q ∈ exc130, ∀ i, ¬ Holds i q := by intro q hq; cases hq
def places146 : List Sx.Place := []
def lawPc146 : Pc := [((.eq (.var 4 (.negSucc 9223372036854775807) 9223372036854775807) (.lit 0)), true), ((.lt (.var 4 (.negSucc 9223372036854775807) 9223372036854775807) (.lit 0)), false), ((.eq (.var 0 0 255) (.lit 70)), true), ((.eq (.var 0 0 255) (.lit 69)), false), ((.eq (.var 0 0 255) (.lit 68)), false), ((.eq (.var 0 0 255) (.lit 67)), false), ((.eq (.var 0 0 255) (.lit 66)), false), ((.lt (.var 0 0 255) (.lit 72)), true), ((.lt (.var 0 0 255) (.lit 66)), false), ((.lt (.var 0 0 255) (.lit 60)), false), ((.lt (.var 0 0 255) (.lit 54)), false), ((.lt (.var 0 0 255) (.lit 48)), false), ((.lt (.var 0 0 255) (.lit 42)), false), ((.lt (.var 0 0 255) (.lit 36)), false), ((.lt (.var 0 0 255) (.lit 30)), false), ((.lt (.var 0 0 255) (.lit 24)), false), ((.lt (.var 0 0 255) (.lit 18)), false), ((.lt (.var 0 0 255) (.lit 12)), false), ((.lt (.var 0 0 255) (.lit 6)), false)]
def exc146 : List Pc := []
theorem start146_yes : startYes Tryd.prog (tabGlob tabs) lawEv 2130220 lawBody lawFn 17 100000 places146 exc146 (psV lawPs 0) (stTab tabs lawPc146) = true := by kernel_rfl
theorem places146_yes : ∀ p ∈ places146, placeYes Tryd.prog (tabGlob tabs) lawEv 2130220 lawBody lawFn 17 100000 places146 exc146 p = true :=
  (fun p h => by cases h)
theorem places146_paths : ∀ p ∈ places146, pathsOk p.stk :=
  (fun p h => by cases h)
theorem exc146_no : ∀ q ∈ exc146, ∀ i, ¬ Holds i q := by intro q hq; cases hq
def places162 : List Sx.Place := []
def lawPc162 : Pc := [((.eq (.var 4 (.negSucc 9223372036854775807) 9223372036854775807) (.lit 0)), false), ((.lt (.var 4 (.negSucc 9223372036854775807) 9223372036854775807) (.lit 0)), false), ((.eq (.var 0 0 255) (.lit 75)), true), ((.eq (.var 0 0 255) (.lit 74)), false), ((.eq (.var 0 0 255) (.lit 73)), false), ((.eq (.var 0 0 255) (.lit 72)), false), ((.lt (.var 0 0 255) (.lit 78)), true), ((.lt (.var 0 0 255) (.lit 72)), false), ((.lt (.var 0 0 255) (.lit 66)), false), ((.lt (.var 0 0 255) (.lit 60)), false), ((.lt (.var 0 0 255) (.lit 54)), false), ((.lt (.var 0 0 255) (.lit 48)), false), ((.lt (.var 0 0 255) (.lit 42)), false), ((.lt (.var 0 0 255) (.lit 36)), false), ((.lt (.var 0 0 255) (.lit 30)), false), ((.lt (.var 0 0 255) (.lit 24)), false), ((.lt (.var 0 0 255) (.lit 18)), false), ((.lt (.var 0 0 255) (.lit 12)), false), ((.lt (.var 0 0 255) (.lit 6)), false)]
def exc162 : List Pc := []
theorem start162_yes : startYes Tryd.prog (tabGlob tabs) lawEv 2130220 lawBody lawFn 17 100000 places162 exc162 (psV lawPs 0) (stTab tabs lawPc162) = true := by kernel_rfl
theorem places162_yes : ∀ p ∈ places162, placeYes Tryd.prog (tabGlob tabs) lawEv 2130220 lawBody lawFn 17 100000 places162 exc162 p = true :=
  (fun p h => by cases h)
theorem places162_paths : ∀ p ∈ places162, pathsOk p.stk :=
  (fun p h => by cases h)
theorem exc162_no : ∀ q ∈ exc162, ∀ i, ¬ Holds i q := by intro q hq; cases hq
def places178 : List Sx.Place := []
def lawPc178 : Pc := [((.lt (.var 4 (.negSucc 9223372036854775807) 9223372036854775807) (.lit 0)), true), ((.eq (.var 0 0 255) (.lit 81)), true), ((.eq (.var 0 0 255) (.lit 80)), false), ((.eq (.var 0 0 255) (.lit 79)), false), ((.eq (.var 0 0 255) (.lit 78)), false), ((.lt (.var 0 0 255) (.lit 84)), true), ((.lt (.var 0 0 255) (.lit 78)), false), ((.lt (.var 0 0 255) (.lit 72)), false), ((.lt (.var 0 0 255) (.lit 66)), false), ((.lt (.var 0 0 255) (.lit 60)), false), ((.lt (.var 0 0 255) (.lit 54)), false), ((.lt (.var 0 0 255) (.lit 48)), false), ((.lt (.var 0 0 255) (.lit 42)), false), ((.lt (.var 0 0 255) (.lit 36)), false), ((.lt (.var 0 0 255) (.lit 30)), false), ((.lt (.var 0 0 255) (.lit 24)), false), ((.lt (.var 0 0 255) (.lit 18)), false), ((.lt (.var 0 0 255) (.lit 12)), false), ((.lt (.var 0 0 255) (.lit 6)), false)]
def exc178 : List Pc := []
theorem start178_yes : startYes Tryd.prog (tabGlob tabs) lawEv 2130220 lawBody lawFn 17 100000 places178 exc178 (psV lawPs 0) (stTab tabs lawPc178) = true := by kernel_rfl
theorem places178_yes : ∀ p ∈ places178, placeYes Tryd.prog (tabGlob tabs) lawEv 2130220 lawBody lawFn 17 100000 places178 exc178 p = true :=
  (fun p h => by cases h)
theorem places178_paths : ∀ p ∈ places178, pathsOk p.stk :=
  (fun p h => by cases h)
theorem exc178_no : ∀ q ∈ exc178, ∀ i, ¬ Holds i q := by intro q hq; cases hq
def places194 : List Sx.Place := []
def lawPc194 : Pc := [((.eq (.var 4 (.negSucc 9223372036854775807) 9223372036854775807) (.lit 0)), true), ((.lt (.var 4 (.negSucc 9223372036854775807) 9223372036854775807) (.lit 0)), false), ((.eq (.var 0 0 255) (.lit 86)), true), ((.eq (.var 0 0 255) (.lit 85)), false), ((.eq (.var 0 0 255) (.lit 84)), false), ((.lt (.var 0 0 255) (.lit 90)), true), ((.lt (.var 0 0 255) (.lit 84)), false), ((.lt (.var 0 0 255) (.lit 78)), false), ((.lt (.var 0 0 255) (.lit 72)), false), ((.lt (.var 0 0 255) (.lit 66)), false), ((.lt (.var 0 0 255) (.lit 60)), false), ((.lt (.var 0 0 255) (.lit 54)), false), ((.lt (.var 0 0 255) (.lit 48)), false), ((.lt (.var 0 0 255) (.lit 42)), false), ((.lt (.var 0 0 255) (.lit 36)), false), ((.lt (.var 0 0 255) (.lit 30)), false), ((.lt (.var 0 0 255) (.lit 24)), false), ((.lt (.var 0 0 255) (.lit 18)), false), ((.lt (.var 0 0 255) (.lit 12)), false), ((.lt (.var 0 0 255) (.lit 6)), false)]
def exc194 : List Pc := []
theorem start194_yes : startYes Tryd.prog (tabGlob tabs) lawEv 2130220 lawBody lawFn 17 100000 places194 exc194 (psV lawPs 0) (stTab tabs lawPc194) = true := by kernel_rfl
theorem places194_yes : ∀ p ∈ places194, placeYes Tryd.prog (tabGlob tabs) lawEv 2130220 lawBody lawFn 17 100000 places194 exc194 p = true :=
  (fun p h => by cases h)
theorem places194_paths : ∀ p ∈ places194, pathsOk p.stk :=
  (fun p h => by cases h)
theorem exc194_no : ∀ q ∈ exc194, ∀ i, ¬ Holds i q := by intro q hq; cases hq
def places210 : List Sx.Place := []
def lawPc210 : Pc := [((.eq (.var 4 (.negSucc 9223372036854775807) 9223372036854775807) (.lit 0)), false), ((.lt (.var 4 (.negSucc 9223372036854775807) 9223372036854775807) (.lit 0)), false), ((.eq (.var 0 0 255) (.lit 91)), true), ((.eq (.var 0 0 255) (.lit 90)), false), ((.lt (.var 0 0 255) (.lit 96)), true), ((.lt (.var 0 0 255) (.lit 90)), false), ((.lt (.var 0 0 255) (.lit 84)), false), ((.lt (.var 0 0 255) (.lit 78)), false), ((.lt (.var 0 0 255) (.lit 72)), false), ((.lt (.var 0 0 255) (.lit 66)), false), ((.lt (.var 0 0 255) (.lit 60)), false), ((.lt (.var 0 0 255) (.lit 54)), false), ((.lt (.var 0 0 255) (.lit 48)), false), ((.lt (.var 0 0 255) (.lit 42)), false), ((.lt (.var 0 0 255) (.lit 36)), false), ((.lt (.var 0 0 255) (.lit 30)), false), ((.lt (.var 0 0 255) (.lit 24)), false), ((.lt (.var 0 0 255) (.lit 18)), false), ((.lt (.var 0 0 255) (.lit 12)), false), ((.lt (.var 0 0 255) (.lit 6)), false)]
def exc210 : List Pc := []
theorem start210_yes : startYes Tryd.prog (tabGlob tabs) lawEv 2130220 lawBody lawFn 17 100000 places210 exc210 (psV lawPs 0) (stTab tabs lawPc210) = true := by kernel_rfl
theorem places210_yes : ∀ p ∈ places210, placeYes Tryd.prog (tabGlob tabs) lawEv 2130220 lawBody lawFn 17 100000 places210 exc210 p = true :=
  (fun p h => by cases h)
theorem places210_paths : ∀ p ∈ places210, pathsOk p.stk :=
  (fun p h => by cases h)
theorem exc210_no : ∀ q ∈ exc210, ∀ i, ¬ Holds i q := by intro q hq; cases hq
def places226 : List Sx.Place := []
def lawPc226 : Pc := [((.lt (.var 4 (.negSucc 9223372036854775807) 9223372036854775807) (.lit 0)), true), ((.lt (.var 0 0 255) (.lit 99)), false), ((.lt (.var 0 0 255) (.lit 96)), false), ((.lt (.var 0 0 255) (.lit 90)), false), ((.lt (.var 0 0 255) (.lit 84)), false), ((.lt (.var 0 0 255) (.lit 78)), false), ((.lt (.var 0 0 255) (.lit 72)), false), ((.lt (.var 0 0 255) (.lit 66)), false), ((.lt (.var 0 0 255) (.lit 60)), false), ((.lt (.var 0 0 255) (.lit 54)), false), ((.lt (.var 0 0 255) (.lit 48)), false), ((.lt (.var 0 0 255) (.lit 42)), false), ((.lt (.var 0 0 255) (.lit 36)), false), ((.lt (.var 0 0 255) (.lit 30)), false), ((.lt (.var 0 0 255) (.lit 24)), false), ((.lt (.var 0 0 255) (.lit 18)), false), ((.lt (.var 0 0 255) (.lit 12)), false), ((.lt (.var 0 0 255) (.lit 6)), false)]
def exc226 : List Pc := []
theorem start226_yes : startYes Tryd.prog (tabGlob tabs) lawEv 2130220 lawBody lawFn 17 100000 places226 exc226 (psV lawPs 0) (stTab tabs lawPc226) = true := by kernel_rfl
theorem places226_yes : ∀ p ∈ places226, placeYes Tryd.prog (tabGlob tabs) lawEv 2130220 lawBody lawFn 17 100000 places226 exc226 p = true :=
  (fun p h => by cases h)
theorem places226_paths : ∀ p ∈ places226, pathsOk p.stk :=
  (fun p h => by cases h)
theorem exc226_no : ∀ q ∈ exc226, ∀ i, ¬ Holds i q := by intro q hq; cases hq
end
end Go.Proofs.YtjlfojjkdeflpaaDoor.Sx
