/- InstChecks: a part of its cases. -/
import Derived.Test.YtjlfojjkdeflpaaDoorUInstChecks
set_option linter.unusedVariables false
set_option linter.unusedSimpArgs false
namespace Go.Proofs.YtjlfojjkdeflpaaDoor.Sx
open Go
noncomputable section
set_option maxRecDepth 100000
def places14 : List Sx.Place := []
def lawPc14 : Pc := [((.eq (.var 0 0 255) (.lit 13)), true), ((.eq (.var 0 0 255) (.lit 12)), false), ((.lt (.var 0 0 255) (.lit 18)), true), ((.lt (.var 0 0 255) (.lit 12)), false), ((.lt (.var 0 0 255) (.lit 6)), false)]
def exc14 : List Pc := []
theorem start14_yes : startYes Tryd.prog (tabGlob tabs) lawEv 2130220 lawBody lawFn 17 100000 places14 exc14 (psV lawPs 0) (stTab tabs lawPc14) = true := by kernel_rfl
theorem places14_yes : ∀ p ∈ places14, placeYes Tryd.prog (tabGlob tabs) lawEv 2130220 lawBody lawFn 17 100000 places14 exc14 p = true :=
  (fun p h => by cases h)
theorem places14_paths : ∀ p ∈ places14, pathsOk p.stk :=
  (fun p h => by cases h)
theorem exc14_no : ∀ q ∈ exc14, ∀ i, ¬ Holds i q := by intro q hq; cases hq
def places30 : List Sx.Place := []
def lawPc30 : Pc := [((.eq (.var 0 0 255) (.lit 26)), true), ((.eq (.var 0 0 255) (.lit 25)), false), ((.eq (.var 0 0 255) (.lit 24)), false), ((.lt (.var 0 0 255) (.lit 30)), true), ((.lt (.var 0 0 255) (.lit 24)), false), ((.lt (.var 0 0 255) (.lit 18)), false), ((.lt (.var 0 0 255) (.lit 12)), false), ((.lt (.var 0 0 255) (.lit 6)), false)]
def exc30 : List Pc := []
theorem start30_yes : startYes Tryd.prog (tabGlob tabs) lawEv 2130220 lawBody lawFn 17 100000 places30 exc30 (psV lawPs 0) (stTab tabs lawPc30) = true := by kernel_rfl
theorem places30_yes : ∀ p ∈ places30, placeYes Tryd.prog (tabGlob tabs) lawEv 2130220 lawBody lawFn 17 100000 places30 exc30 p = true :=
  (fun p h => by cases h)
theorem places30_paths : ∀ p ∈ places30, pathsOk p.stk :=
  (fun p h => by cases h)
theorem exc30_no : ∀ q ∈ exc30, ∀ i, ¬ Holds i q := by intro q hq; cases hq
def places46 : List Sx.Place := []
def lawPc46 : Pc := [((.eq (.var 4 (.negSucc 9223372036854775807) 9223372036854775807) (.lit 0)), true), ((.lt (.var 4 (.negSucc 9223372036854775807) 9223372036854775807) (.lit 0)), false), ((.eq (.var 0 0 255) (.lit 34)), true), ((.eq (.var 0 0 255) (.lit 33)), false), ((.eq (.var 0 0 255) (.lit 32)), false), ((.eq (.var 0 0 255) (.lit 31)), false), ((.eq (.var 0 0 255) (.lit 30)), false), ((.lt (.var 0 0 255) (.lit 36)), true), ((.lt (.var 0 0 255) (.lit 30)), false), ((.lt (.var 0 0 255) (.lit 24)), false), ((.lt (.var 0 0 255) (.lit 18)), false), ((.lt (.var 0 0 255) (.lit 12)), false), ((.lt (.var 0 0 255) (.lit 6)), false)]
def exc46 : List Pc := []
theorem start46_yes : startYes Tryd.prog (tabGlob tabs) lawEv 2130220 lawBody lawFn 17 100000 places46 exc46 (psV lawPs 0) (stTab tabs lawPc46) = true := by kernel_rfl
theorem places46_yes : ∀ p ∈ places46, placeYes Tryd.prog (tabGlob tabs) lawEv 2130220 lawBody lawFn 17 100000 places46 exc46 p = true :=
  (fun p h => by cases h)
theorem places46_paths : ∀ p ∈ places46, pathsOk p.stk :=
  (fun p h => by cases h)
theorem exc46_no : ∀ q ∈ exc46, ∀ i, ¬ Holds i q := by intro q hq; cases hq
def places62 : List Sx.Place := []
def lawPc62 : Pc := [((.eq (.var 4 (.negSucc 9223372036854775807) 9223372036854775807) (.lit 0)), false), ((.lt (.var 4 (.negSucc 9223372036854775807) 9223372036854775807) (.lit 0)), false), ((.eq (.var 0 0 255) (.lit 39)), true), ((.eq (.var 0 0 255) (.lit 38)), false), ((.eq (.var 0 0 255) (.lit 37)), false), ((.eq (.var 0 0 255) (.lit 36)), false), ((.lt (.var 0 0 255) (.lit 42)), true), ((.lt (.var 0 0 255) (.lit 36)), false), ((.lt (.var 0 0 255) (.lit 30)), false), ((.lt (.var 0 0 255) (.lit 24)), false), ((.lt (.var 0 0 255) (.lit 18)), false), ((.lt (.var 0 0 255) (.lit 12)), false), ((.lt (.var 0 0 255) (.lit 6)), false)]
def exc62 : List Pc := []
theorem start62_yes : startYes Tryd.prog (tabGlob tabs) lawEv 2130220 lawBody lawFn 17 100000 places62 exc62 (psV lawPs 0) (stTab tabs lawPc62) = true := by kernel_rfl
theorem places62_yes : ∀ p ∈ places62, placeYes Tryd.prog (tabGlob tabs) lawEv 2130220 lawBody lawFn 17 100000 places62 exc62 p = true :=
  (fun p h => by cases h)
theorem places62_paths : ∀ p ∈ places62, pathsOk p.stk :=
  (fun p h => by cases h)
theorem exc62_no : ∀ q ∈ exc62, ∀ i, ¬ Holds i q := by intro q hq; cases hq
def places78 : List Sx.Place := []
def lawPc78 : Pc := [((.eq (.var 4 (.negSucc 9223372036854775807) 9223372036854775807) (.lit 0)), false), ((.lt (.var 4 (.negSucc 9223372036854775807) 9223372036854775807) (.lit 0)), false), ((.eq (.var 0 0 255) (.lit 46)), false), ((.eq (.var 0 0 255) (.lit 45)), false), ((.eq (.var 0 0 255) (.lit 44)), false), ((.eq (.var 0 0 255) (.lit 43)), false), ((.eq (.var 0 0 255) (.lit 42)), false), ((.lt (.var 0 0 255) (.lit 48)), true), ((.lt (.var 0 0 255) (.lit 42)), false), ((.lt (.var 0 0 255) (.lit 36)), false), ((.lt (.var 0 0 255) (.lit 30)), false), ((.lt (.var 0 0 255) (.lit 24)), false), ((.lt (.var 0 0 255) (.lit 18)), false), ((.lt (.var 0 0 255) (.lit 12)), false), ((.lt (.var 0 0 255) (.lit 6)), false)]
def exc78 : List Pc := []
theorem start78_yes : startYes Tryd.prog (tabGlob tabs) lawEv 2130220 lawBody lawFn 17 100000 places78 exc78 (psV lawPs 0) (stTab tabs lawPc78) = true := by kernel_rfl
theorem places78_yes : ∀ p ∈ places78, placeYes Tryd.prog (tabGlob tabs) lawEv 2130220 lawBody lawFn 17 100000 places78 exc78 p = true :=
  (fun p h => by cases h)
theorem places78_paths : ∀ p ∈ places78, pathsOk p.stk :=
  (fun p h => by cases h)
theorem exc78_no : ∀ q ∈ exc78, ∀ i, ¬ Holds i q := by intro q hq; cases hq
def places94 : List Sx.Place := []
def lawPc94 : Pc := [((.lt (.var 4 (.negSucc 9223372036854775807) 9223372036854775807) (.lit 0)), true), ((.eq (.var 0 0 255) (.lit 52)), false), ((.eq (.var 0 0 255) (.lit 51)), false), ((.eq (.var 0 0 255) (.lit 50)), false), ((.eq (.var 0 0 255) (.lit 49)), false), ((.eq (.var 0 0 255) (.lit 48)), false), ((.lt (.var 0 0 255) (.lit 54)), true), ((.lt (.var 0 0 255) (.lit 48)), false), ((.lt (.var 0 0 255) (.lit 42)), false), ((.lt (.var 0 0 255) (.lit 36)), false), ((.lt (.var 0 0 255) (.lit 30)), false), ((.lt (.var 0 0 255) (.lit 24)), false), ((.lt (.var 0 0 255) (.lit 18)), false), ((.lt (.var 0 0 255) (.lit 12)), false), ((.lt (.var 0 0 255) (.lit 6)), false)]
def exc94 : List Pc := []
theorem start94_yes : startYes Tryd.prog (tabGlob tabs) lawEv 2130220 lawBody lawFn 17 100000 places94 exc94 (psV lawPs 0) (stTab tabs lawPc94) = true := by kernel_rfl
theorem places94_yes : ∀ p ∈ places94, placeYes Tryd.prog (tabGlob tabs) lawEv 2130220 lawBody lawFn 17 100000 places94 exc94 p = true :=
  (fun p h => by cases h)
theorem places94_paths : ∀ p ∈ places94, pathsOk p.stk :=
  (fun p h => by cases h)
theorem exc94_no : ∀ q ∈ exc94, ∀ i, ¬ Holds i q := by intro q hq; cases hq
def places110 : List Sx.Place := []
def lawPc110 : Pc := [((.eq (.var 4 (.negSucc 9223372036854775807) 9223372036854775807) (.lit 0)), true), ((.lt (.var 4 (.negSucc 9223372036854775807) 9223372036854775807) (.lit 0)), false), ((.eq (.var 0 0 255) (.lit 58)), true), ((.eq (.var 0 0 255) (.lit 57)), false), ((.eq (.var 0 0 255) (.lit 56)), false), ((.eq (.var 0 0 255) (.lit 55)), false), ((.eq (.var 0 0 255) (.lit 54)), false), ((.lt (.var 0 0 255) (.lit 60)), true), ((.lt (.var 0 0 255) (.lit 54)), false), ((.lt (.var 0 0 255) (.lit 48)), false), ((.lt (.var 0 0 255) (.lit 42)), false), ((.lt (.var 0 0 255) (.lit 36)), false), ((.lt (.var 0 0 255) (.lit 30)), false), ((.lt (.var 0 0 255) (.lit 24)), false), ((.lt (.var 0 0 255) (.lit 18)), false), ((.lt (.var 0 0 255) (.lit 12)), false), ((.lt (.var 0 0 255) (.lit 6)), false)]
def exc110 : List Pc := []
theorem start110_yes : startYes Tryd.prog (tabGlob tabs) lawEv 2130220 lawBody lawFn 17 100000 places110 exc110 (psV lawPs 0) (stTab tabs lawPc110) = true := by kernel_rfl
theorem places110_yes : ∀ p ∈ places110, placeYes Tryd.prog (tabGlob tabs) lawEv 2130220 lawBody lawFn 17 100000 places110 exc110 p = true :=
  (fun p h => by cases h)
theorem places110_paths : ∀ p ∈ places110, pathsOk p.stk :=
  (fun p h => by cases h)
theorem exc110_no : ∀ q ∈ exc110, ∀ i, ¬ Holds i q := by intro q hq; cases hq
def places126 : List Sx.Place := []
def lawPc126 : Pc := [((.eq (.var 4 (.negSucc 9223372036854775807) 9223372036854775807) (.lit 0)), false), ((.lt (.var 4 (.negSucc 9223372036854775807) 9223372036854775807) (.lit 0)), false), ((.eq (.var 0 0 255) (.lit 63)), true), ((.eq (.var 0 0 255) (.lit 62)), false), ((.eq (.var 0 0 255) (.lit 61)), false), ((.eq (.var 0 0 255) (.lit 60)), false), ((.lt (.var 0 0 255) (.lit 66)), true), ((.lt (.var 0 0 255) (.lit 60)), false), ((.lt (.var 0 0 255) (.lit 54)), false), ((.lt (.var 0 0 255) (.lit 48)), false), ((.lt (.var 0 0 255) (.lit 42)), false), ((.lt (.var 0 0 255) (.lit 36)), false), ((.lt (.var 0 0 255) (.lit 30)), false), ((.lt (.var 0 0 255) (.lit 24)), false), ((.lt (.var 0 0 255) (.lit 18)), false), ((.lt (.var 0 0 255) (.lit 12)), false), ((.lt (.var 0 0 255) (.lit 6)), false)]
def exc126 : List Pc := []
theorem start126_yes : startYes Tryd.prog (tabGlob tabs) lawEv 2130220 lawBody lawFn 17 100000 places126 exc126 (psV lawPs 0) (stTab tabs lawPc126) = true := by kernel_rfl
theorem places126_yes : ∀ p ∈ places126, placeYes Tryd.prog (tabGlob tabs) lawEv 2130220 lawBody lawFn 17 100000 places126 exc126 p = true :=
  (fun p h => by cases h)
theorem places126_paths : ∀ p ∈ places126, pathsOk p.stk :=
  (fun p h => by cases h)
theorem exc126_no : ∀ q ∈ exc126, ∀ i, ¬ Holds i q := by intro q hq; cases hq
def places142 : List Sx.Place := []
def lawPc142 : Pc := [((.lt (.var 4 (.negSucc 9223372036854775807) 9223372036854775807) (.lit 0)), true), ((.eq (.var 0 0 255) (.lit 69)), true), ((.eq (.var 0 0 255) (.lit 68)), false), ((.eq (.var 0 0 255) (.lit 67)), false), ((.eq (.var 0 0 255) (.lit 66)), false), ((.lt (.var 0 0 255) (.lit 72)), true), ((.lt (.var 0 0 255) (.lit 66)), false), ((.lt (.var 0 0 255) (.lit 60)), false), ((.lt (.var 0 0 255) (.lit 54)), false), ((.lt (.var 0 0 255) (.lit 48)), false), ((.lt (.var 0 0 255) (.lit 42)), false), ((.lt (.var 0 0 255) (.lit 36)), false), ((.lt (.var 0 0 255) (.lit 30)), false), ((.lt (.var 0 0 255) (.lit 24)), false), ((.lt (.var 0 0 255) (.lit 18)), false), ((.lt (.var 0 0 255) (.lit 12)), false), ((.lt (.var 0 0 255) (.lit 6)), false)]
def exc142 : List Pc := []
theorem start142_yes : startYes Tryd.prog (tabGlob tabs) lawEv 2130220 lawBody lawFn 17 100000 places142 exc142 (psV lawPs 0) (stTab tabs lawPc142) = true := by kernel_rfl
theorem places142_yes : ∀ p ∈ places142, placeYes Tryd.prog (tabGlob tabs) lawEv 2130220 lawBody lawFn 17 100000 places142 exc142 p = true :=
  (fun p h => by cases h)
theorem places142_paths : ∀ p ∈ places142, pathsOk p.stk :=
  (fun p h => by cases h)
theorem exc142_no : ∀ q ∈ exc142, ∀ i, ¬ Holds i q := by intro q hq; cases hq
def places158 : List Sx.Place := []
def lawPc158 : Pc := [((.eq (.var 4 (.negSucc 9223372036854775807) 9223372036854775807) (.lit 0)), true), ((.lt (.var 4 (.negSucc 9223372036854775807) 9223372036854775807) (.lit 0)), false), ((.eq (.var 0 0 255) (.lit 74)), true), ((.eq (.var 0 0 255) (.lit 73)), false), ((.eq (.var 0 0 255) (.lit 72)), false), ((.lt (.var 0 0 255) (.lit 78)), true), ((.lt (.var 0 0 255) (.lit 72)), false), ((.lt (.var 0 0 255) (.lit 66)), false), ((.lt (.var 0 0 255) (.lit 60)), false), ((.lt (.var 0 0 255) (.lit 54)), false), ((.lt (.var 0 0 255) (.lit 48)), false), ((.lt (.var 0 0 255) (.lit 42)), false), ((.lt (.var 0 0 255) (.lit 36)), false), ((.lt (.var 0 0 255) (.lit 30)), false), ((.lt (.var 0 0 255) (.lit 24)), false), ((.lt (.var 0 0 255) (.lit 18)), false), ((.lt (.var 0 0 255) (.lit 12)), false), ((.lt (.var 0 0 255) (.lit 6)), false)]
def exc158 : List Pc := []
theorem start158_yes : startYes Tryd.prog (tabGlob tabs) lawEv 2130220 lawBody lawFn 17 100000 places158 exc158 (psV lawPs 0) (stTab tabs lawPc158) = true := by kernel_rfl
theorem places158_yes : ∀ p ∈ places158, placeYes Tryd.prog (tabGlob tabs) lawEv 2130220 lawBody lawFn 17 100000 places158 exc158 p = true :=
  (fun p h => by cases h)
theorem places158_paths : ∀ p ∈ places158, pathsOk p.stk :=
  (fun p h => by cases h)
theorem exc158_no : ∀ q ∈ exc158, ∀ i, ¬ Holds i q := by intro q hq; cases hq
def places174 : List Sx.Place := []
def lawPc174 : Pc := [((.eq (.var 4 (.negSucc 9223372036854775807) 9223372036854775807) (.lit 0)), false), ((.lt (.var 4 (.negSucc 9223372036854775807) 9223372036854775807) (.lit 0)), false), ((.eq (.var 0 0 255) (.lit 79)), true), ((.eq (.var 0 0 255) (.lit 78)), false), ((.lt (.var 0 0 255) (.lit 84)), true), ((.lt (.var 0 0 255) (.lit 78)), false), ((.lt (.var 0 0 255) (.lit 72)), false), ((.lt (.var 0 0 255) (.lit 66)), false), ((.lt (.var 0 0 255) (.lit 60)), false), ((.lt (.var 0 0 255) (.lit 54)), false), ((.lt (.var 0 0 255) (.lit 48)), false), ((.lt (.var 0 0 255) (.lit 42)), false), ((.lt (.var 0 0 255) (.lit 36)), false), ((.lt (.var 0 0 255) (.lit 30)), false), ((.lt (.var 0 0 255) (.lit 24)), false), ((.lt (.var 0 0 255) (.lit 18)), false), ((.lt (.var 0 0 255) (.lit 12)), false), ((.lt (.var 0 0 255) (.lit 6)), false)]
def exc174 : List Pc := []
theorem start174_yes : startYes Tryd.prog (tabGlob tabs) lawEv 2130220 lawBody lawFn 17 100000 places174 exc174 (psV lawPs 0) (stTab tabs lawPc174) = true := by kernel_rfl
theorem places174_yes : ∀ p ∈ places174, placeYes Tryd.prog (tabGlob tabs) lawEv 2130220 lawBody lawFn 17 100000 places174 exc174 p = true :=
  (fun p h => by cases h)
theorem places174_paths : ∀ p ∈ places174, pathsOk p.stk :=
  (fun p h => by cases h)
theorem exc174_no : ∀ q ∈ exc174, ∀ i, ¬ Holds i q := by intro q hq; cases hq
def places190 : List Sx.Place := []
def lawPc190 : Pc := [((.lt (.var 4 (.negSucc 9223372036854775807) 9223372036854775807) (.lit 0)), true), ((.eq (.var 0 0 255) (.lit 85)), true), ((.eq (.var 0 0 255) (.lit 84)), false), ((.lt (.var 0 0 255) (.lit 90)), true), ((.lt (.var 0 0 255) (.lit 84)), false), ((.lt (.var 0 0 255) (.lit 78)), false), ((.lt (.var 0 0 255) (.lit 72)), false), ((.lt (.var 0 0 255) (.lit 66)), false), ((.lt (.var 0 0 255) (.lit 60)), false), ((.lt (.var 0 0 255) (.lit 54)), false), ((.lt (.var 0 0 255) (.lit 48)), false), ((.lt (.var 0 0 255) (.lit 42)), false), ((.lt (.var 0 0 255) (.lit 36)), false), ((.lt (.var 0 0 255) (.lit 30)), false), ((.lt (.var 0 0 255) (.lit 24)), false), ((.lt (.var 0 0 255) (.lit 18)), false), ((.lt (.var 0 0 255) (.lit 12)), false), ((.lt (.var 0 0 255) (.lit 6)), false)]
def exc190 : List Pc := []
theorem start190_yes : startYes Tryd.prog (tabGlob tabs) lawEv 2130220 lawBody lawFn 17 100000 places190 exc190 (psV lawPs 0) (stTab tabs lawPc190) = true := by kernel_rfl
theorem places190_yes : ∀ p ∈ places190, placeYes Tryd.prog (tabGlob tabs) lawEv 2130220 lawBody lawFn 17 100000 places190 exc190 p = true :=
  (fun p h => by cases h)
theorem places190_paths : ∀ p ∈ places190, pathsOk p.stk :=
  (fun p h => by cases h)
theorem exc190_no : ∀ q ∈ exc190, ∀ i, ¬ Holds i q := by intro q hq; cases hq
def places206 : List Sx.Place := []
def lawPc206 : Pc := [((.eq (.var 4 (.negSucc 9223372036854775807) 9223372036854775807) (.lit 0)), true), ((.lt (.var 4 (.negSucc 9223372036854775807) 9223372036854775807) (.lit 0)), false), ((.eq (.var 0 0 255) (.lit 90)), true), ((.lt (.var 0 0 255) (.lit 96)), true), ((.lt (.var 0 0 255) (.lit 90)), false), ((.lt (.var 0 0 255) (.lit 84)), false), ((.lt (.var 0 0 255) (.lit 78)), false), ((.lt (.var 0 0 255) (.lit 72)), false), ((.lt (.var 0 0 255) (.lit 66)), false), ((.lt (.var 0 0 255) (.lit 60)), false), ((.lt (.var 0 0 255) (.lit 54)), false), ((.lt (.var 0 0 255) (.lit 48)), false), ((.lt (.var 0 0 255) (.lit 42)), false), ((.lt (.var 0 0 255) (.lit 36)), false), ((.lt (.var 0 0 255) (.lit 30)), false), ((.lt (.var 0 0 255) (.lit 24)), false), ((.lt (.var 0 0 255) (.lit 18)), false), ((.lt (.var 0 0 255) (.lit 12)), false), ((.lt (.var 0 0 255) (.lit 6)), false)]
def exc206 : List Pc := []
theorem start206_yes : startYes Tryd.prog (tabGlob tabs) lawEv 2130220 lawBody lawFn 17 100000 places206 exc206 (psV lawPs 0) (stTab tabs lawPc206) = true := by kernel_rfl
theorem places206_yes : ∀ p ∈ places206, placeYes Tryd.prog (tabGlob tabs) lawEv 2130220 lawBody lawFn 17 100000 places206 exc206 p = true :=
  (fun p h => by cases h)
theorem places206_paths : ∀ p ∈ places206, pathsOk p.stk :=
  (fun p h => by cases h)
theorem exc206_no : ∀ q ∈ exc206, ∀ i, ¬ Holds i q := by intro q hq; cases hq
def places222 : List Sx.Place := []
def lawPc222 : Pc := [((.eq (.var 4 (.negSucc 9223372036854775807) 9223372036854775807) (.lit 0)), false), ((.lt (.var 4 (.negSucc 9223372036854775807) 9223372036854775807) (.lit 0)), false), ((.eq (.var 0 0 255) (.lit 97)), true), ((.eq (.var 0 0 255) (.lit 96)), false), ((.lt (.var 0 0 255) (.lit 99)), true), ((.lt (.var 0 0 255) (.lit 96)), false), ((.lt (.var 0 0 255) (.lit 90)), false), ((.lt (.var 0 0 255) (.lit 84)), false), ((.lt (.var 0 0 255) (.lit 78)), false), ((.lt (.var 0 0 255) (.lit 72)), false), ((.lt (.var 0 0 255) (.lit 66)), false), ((.lt (.var 0 0 255) (.lit 60)), false), ((.lt (.var 0 0 255) (.lit 54)), false), ((.lt (.var 0 0 255) (.lit 48)), false), ((.lt (.var 0 0 255) (.lit 42)), false), ((.lt (.var 0 0 255) (.lit 36)), false), ((.lt (.var 0 0 255) (.lit 30)), false), ((.lt (.var 0 0 255) (.lit 24)), false), ((.lt (.var 0 0 255) (.lit 18)), false), ((.lt (.var 0 0 255) (.lit 12)), false), ((.lt (.var 0 0 255) (.lit 6)), false)]
def exc222 : List Pc := []
theorem start222_yes : startYes Tryd.prog (tabGlob tabs) lawEv 2130220 lawBody lawFn 17 100000 places222 exc222 (psV lawPs 0) (stTab tabs lawPc222) = true := by kernel_rfl
theorem places222_yes : ∀ p ∈ places222, placeYes Tryd.prog (tabGlob tabs) lawEv 2130220 lawBody lawFn 17 100000 places222 exc222 p = true :=
  (fun p h => by cases h)
theorem places222_paths : ∀ p ∈ places222, pathsOk p.stk :=
  (fun p h => by cases h)
theorem exc222_no : ∀ q ∈ exc222, ∀ i, ¬ Holds i q := by intro q hq; cases hq
end
end Go.Proofs.YtjlfojjkdeflpaaDoor.Sx
