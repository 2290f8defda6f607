/- InstChecks: a part of its cases. -/
import Derived.Test.YtjlfojjkdeflpaaDoorUInstChecks
set_option linter.unusedVariables false
set_option linter.unusedSimpArgs false
namespace Go.Proofs.YtjlfojjkdeflpaaDoor.Sx
open Go
noncomputable section
set_option maxRecDepth 100000
def places11 : List Sx.Place := []
def lawPc11 : Pc := [((.eq (.ar .and .u32 (.ar .or .u32 (.ar .or .u32 (.ar .or .u32 (.lit 3) (.ar .shl .u32 (.var 1 0 255) (.lit 7))) (.ar .shl .u32 (.var 2 0 255) (.lit 15))) (.conv .u32 (.ar .shl .u64 (.ar .rem .u64 (.conv .u64 (.var 4 (-9223372036854775808) 9223372036854775807)) (.lit 4096)) (.lit 20)))) (.lit 28799)) (.lit 3)), true), ((.eq (.var 0 0 255) (.lit 11)), true), ((.lt (.var 1 0 255) (.lit 32)), true), ((.eq (.var 0 0 255) (.lit 10)), false), ((.eq (.var 0 0 255) (.lit 9)), false), ((.eq (.var 0 0 255) (.lit 8)), false), ((.eq (.var 0 0 255) (.lit 7)), false), ((.eq (.var 0 0 255) (.lit 6)), false), ((.lt (.var 0 0 255) (.lit 12)), true), ((.lt (.var 0 0 255) (.lit 6)), false)]
def exc11 : List Pc := []
theorem start11_yes : startYes Tryd.prog (tabGlob tabs) lawEv 2130220 lawBody lawFn 17 100000 places11 exc11 (psV lawPs 0) (stTab tabs lawPc11) = true := by kernel_rfl
theorem places11_yes : ∀ p ∈ places11, placeYes Tryd.prog (tabGlob tabs) lawEv 2130220 lawBody lawFn 17 100000 places11 exc11 p = true :=
  (fun p h => by cases h)
theorem places11_paths : ∀ p ∈ places11, pathsOk p.stk :=
  (fun p h => by cases h)
theorem exc11_no : ∀ q ∈ exc11, ∀ i, ¬ Holds i q := by intro q hq; cases hq
def places27 : List Sx.Place := []
def lawPc27 : Pc := [((.eq (.var 0 0 255) (.lit 24)), true), ((.lt (.var 0 0 255) (.lit 30)), true), ((.lt (.var 0 0 255) (.lit 24)), false), ((.lt (.var 0 0 255) (.lit 18)), false), ((.lt (.var 0 0 255) (.lit 12)), false), ((.lt (.var 0 0 255) (.lit 6)), false)]
def exc27 : List Pc := []
theorem start27_yes : startYes Tryd.prog (tabGlob tabs) lawEv 2130220 lawBody lawFn 17 100000 places27 exc27 (psV lawPs 0) (stTab tabs lawPc27) = true := by kernel_rfl
theorem places27_yes : ∀ p ∈ places27, placeYes Tryd.prog (tabGlob tabs) lawEv 2130220 lawBody lawFn 17 100000 places27 exc27 p = true :=
  (fun p h => by cases h)
theorem places27_paths : ∀ p ∈ places27, pathsOk p.stk :=
  (fun p h => by cases h)
theorem exc27_no : ∀ q ∈ exc27, ∀ i, ¬ Holds i q := by intro q hq; cases hq
def places43 : List Sx.Place := []
def lawPc43 : Pc := [((.eq (.var 4 (.negSucc 9223372036854775807) 9223372036854775807) (.lit 0)), true), ((.lt (.var 4 (.negSucc 9223372036854775807) 9223372036854775807) (.lit 0)), false), ((.eq (.var 0 0 255) (.lit 33)), true), ((.eq (.var 0 0 255) (.lit 32)), false), ((.eq (.var 0 0 255) (.lit 31)), false), ((.eq (.var 0 0 255) (.lit 30)), false), ((.lt (.var 0 0 255) (.lit 36)), true), ((.lt (.var 0 0 255) (.lit 30)), false), ((.lt (.var 0 0 255) (.lit 24)), false), ((.lt (.var 0 0 255) (.lit 18)), false), ((.lt (.var 0 0 255) (.lit 12)), false), ((.lt (.var 0 0 255) (.lit 6)), false)]
def exc43 : List Pc := []
theorem start43_yes : startYes Tryd.prog (tabGlob tabs) lawEv 2130220 lawBody lawFn 17 100000 places43 exc43 (psV lawPs 0) (stTab tabs lawPc43) = true := by kernel_rfl
theorem places43_yes : ∀ p ∈ places43, placeYes Tryd.prog (tabGlob tabs) lawEv 2130220 lawBody lawFn 17 100000 places43 exc43 p = true :=
  (fun p h => by cases h)
theorem places43_paths : ∀ p ∈ places43, pathsOk p.stk :=
  (fun p h => by cases h)
theorem exc43_no : ∀ q ∈ exc43, ∀ i, ¬ Holds i q := by intro q hq; cases hq
def places59 : List Sx.Place := []
def lawPc59 : Pc := [((.eq (.var 4 (.negSucc 9223372036854775807) 9223372036854775807) (.lit 0)), false), ((.lt (.var 4 (.negSucc 9223372036854775807) 9223372036854775807) (.lit 0)), false), ((.eq (.var 0 0 255) (.lit 38)), true), ((.eq (.var 0 0 255) (.lit 37)), false), ((.eq (.var 0 0 255) (.lit 36)), false), ((.lt (.var 0 0 255) (.lit 42)), true), ((.lt (.var 0 0 255) (.lit 36)), false), ((.lt (.var 0 0 255) (.lit 30)), false), ((.lt (.var 0 0 255) (.lit 24)), false), ((.lt (.var 0 0 255) (.lit 18)), false), ((.lt (.var 0 0 255) (.lit 12)), false), ((.lt (.var 0 0 255) (.lit 6)), false)]
def exc59 : List Pc := []
theorem start59_yes : startYes Tryd.prog (tabGlob tabs) lawEv 2130220 lawBody lawFn 17 100000 places59 exc59 (psV lawPs 0) (stTab tabs lawPc59) = true := by kernel_rfl
theorem places59_yes : ∀ p ∈ places59, placeYes Tryd.prog (tabGlob tabs) lawEv 2130220 lawBody lawFn 17 100000 places59 exc59 p = true :=
  (fun p h => by cases h)
theorem places59_paths : ∀ p ∈ places59, pathsOk p.stk :=
  (fun p h => by cases h)
theorem exc59_no : ∀ q ∈ exc59, ∀ i, ¬ Holds i q := by intro q hq; cases hq
def places75 : List Sx.Place := []
def lawPc75 : Pc := [((.eq (.var 4 (.negSucc 9223372036854775807) 9223372036854775807) (.lit 0)), false), ((.lt (.var 4 (.negSucc 9223372036854775807) 9223372036854775807) (.lit 0)), false), ((.eq (.var 0 0 255) (.lit 46)), true), ((.eq (.var 0 0 255) (.lit 45)), false), ((.eq (.var 0 0 255) (.lit 44)), false), ((.eq (.var 0 0 255) (.lit 43)), false), ((.eq (.var 0 0 255) (.lit 42)), false), ((.lt (.var 0 0 255) (.lit 48)), true), ((.lt (.var 0 0 255) (.lit 42)), false), ((.lt (.var 0 0 255) (.lit 36)), false), ((.lt (.var 0 0 255) (.lit 30)), false), ((.lt (.var 0 0 255) (.lit 24)), false), ((.lt (.var 0 0 255) (.lit 18)), false), ((.lt (.var 0 0 255) (.lit 12)), false), ((.lt (.var 0 0 255) (.lit 6)), false)]
def exc75 : List Pc := []
theorem start75_yes : startYes Tryd.prog (tabGlob tabs) lawEv 2130220 lawBody lawFn 17 100000 places75 exc75 (psV lawPs 0) (stTab tabs lawPc75) = true := by kernel_rfl
theorem places75_yes : ∀ p ∈ places75, placeYes Tryd.prog (tabGlob tabs) lawEv 2130220 lawBody lawFn 17 100000 places75 exc75 p = true :=
  (fun p h => by cases h)
theorem places75_paths : ∀ p ∈ places75, pathsOk p.stk :=
  (fun p h => by cases h)
theorem exc75_no : ∀ q ∈ exc75, ∀ i, ¬ Holds i q := by intro q hq; cases hq
def places91 : List Sx.Place := []
def lawPc91 : Pc := [((.lt (.var 4 (.negSucc 9223372036854775807) 9223372036854775807) (.lit 0)), true), ((.eq (.var 0 0 255) (.lit 52)), true), ((.eq (.var 0 0 255) (.lit 51)), false), ((.eq (.var 0 0 255) (.lit 50)), false), ((.eq (.var 0 0 255) (.lit 49)), false), ((.eq (.var 0 0 255) (.lit 48)), false), ((.lt (.var 0 0 255) (.lit 54)), true), ((.lt (.var 0 0 255) (.lit 48)), false), ((.lt (.var 0 0 255) (.lit 42)), false), ((.lt (.var 0 0 255) (.lit 36)), false), ((.lt (.var 0 0 255) (.lit 30)), false), ((.lt (.var 0 0 255) (.lit 24)), false), ((.lt (.var 0 0 255) (.lit 18)), false), ((.lt (.var 0 0 255) (.lit 12)), false), ((.lt (.var 0 0 255) (.lit 6)), false)]
def exc91 : List Pc := []
theorem start91_yes : startYes Tryd.prog (tabGlob tabs) lawEv 2130220 lawBody lawFn 17 100000 places91 exc91 (psV lawPs 0) (stTab tabs lawPc91) = true := by kernel_rfl
theorem places91_yes : ∀ p ∈ places91, placeYes Tryd.prog (tabGlob tabs) lawEv 2130220 lawBody lawFn 17 100000 places91 exc91 p = true :=
  (fun p h => by cases h)
theorem places91_paths : ∀ p ∈ places91, pathsOk p.stk :=
  (fun p h => by cases h)
theorem exc91_no : ∀ q ∈ exc91, ∀ i, ¬ Holds i q := by intro q hq; cases hq
def places107 : List Sx.Place := []
def lawPc107 : Pc := [((.eq (.var 4 (.negSucc 9223372036854775807) 9223372036854775807) (.lit 0)), true), ((.lt (.var 4 (.negSucc 9223372036854775807) 9223372036854775807) (.lit 0)), false), ((.eq (.var 0 0 255) (.lit 57)), true), ((.eq (.var 0 0 255) (.lit 56)), false), ((.eq (.var 0 0 255) (.lit 55)), false), ((.eq (.var 0 0 255) (.lit 54)), false), ((.lt (.var 0 0 255) (.lit 60)), true), ((.lt (.var 0 0 255) (.lit 54)), false), ((.lt (.var 0 0 255) (.lit 48)), false), ((.lt (.var 0 0 255) (.lit 42)), false), ((.lt (.var 0 0 255) (.lit 36)), false), ((.lt (.var 0 0 255) (.lit 30)), false), ((.lt (.var 0 0 255) (.lit 24)), false), ((.lt (.var 0 0 255) (.lit 18)), false), ((.lt (.var 0 0 255) (.lit 12)), false), ((.lt (.var 0 0 255) (.lit 6)), false)]
def exc107 : List Pc := []
theorem start107_yes : startYes Tryd.prog (tabGlob tabs) lawEv 2130220 lawBody lawFn 17 100000 places107 exc107 (psV lawPs 0) (stTab tabs lawPc107) = true := by kernel_rfl
theorem places107_yes : ∀ p ∈ places107, placeYes Tryd.prog (tabGlob tabs) lawEv 2130220 lawBody lawFn 17 100000 places107 exc107 p = true :=
  (fun p h => by cases h)
theorem places107_paths : ∀ p ∈ places107, pathsOk p.stk :=
  (fun p h => by cases h)
theorem exc107_no : ∀ q ∈ exc107, ∀ i, ¬ Holds i q := by intro q hq; cases hq
def places123 : List Sx.Place := []
def lawPc123 : Pc := [((.eq (.var 4 (.negSucc 9223372036854775807) 9223372036854775807) (.lit 0)), false), ((.lt (.var 4 (.negSucc 9223372036854775807) 9223372036854775807) (.lit 0)), false), ((.eq (.var 0 0 255) (.lit 62)), true), ((.eq (.var 0 0 255) (.lit 61)), false), ((.eq (.var 0 0 255) (.lit 60)), false), ((.lt (.var 0 0 255) (.lit 66)), true), ((.lt (.var 0 0 255) (.lit 60)), false), ((.lt (.var 0 0 255) (.lit 54)), false), ((.lt (.var 0 0 255) (.lit 48)), false), ((.lt (.var 0 0 255) (.lit 42)), false), ((.lt (.var 0 0 255) (.lit 36)), false), ((.lt (.var 0 0 255) (.lit 30)), false), ((.lt (.var 0 0 255) (.lit 24)), false), ((.lt (.var 0 0 255) (.lit 18)), false), ((.lt (.var 0 0 255) (.lit 12)), false), ((.lt (.var 0 0 255) (.lit 6)), false)]
def exc123 : List Pc := []
theorem start123_yes : startYes Tryd.prog (tabGlob tabs) lawEv 2130220 lawBody lawFn 17 100000 places123 exc123 (psV lawPs 0) (stTab tabs lawPc123) = true := by kernel_rfl
theorem places123_yes : ∀ p ∈ places123, placeYes Tryd.prog (tabGlob tabs) lawEv 2130220 lawBody lawFn 17 100000 places123 exc123 p = true :=
  (fun p h => by cases h)
theorem places123_paths : ∀ p ∈ places123, pathsOk p.stk :=
  (fun p h => by cases h)
theorem exc123_no : ∀ q ∈ exc123, ∀ i, ¬ Holds i q := by intro q hq; cases hq
def places139 : List Sx.Place := []
def lawPc139 : Pc := [((.lt (.var 4 (.negSucc 9223372036854775807) 9223372036854775807) (.lit 0)), true), ((.eq (.var 0 0 255) (.lit 68)), true), ((.eq (.var 0 0 255) (.lit 67)), false), ((.eq (.var 0 0 255) (.lit 66)), false), ((.lt (.var 0 0 255) (.lit 72)), true), ((.lt (.var 0 0 255) (.lit 66)), false), ((.lt (.var 0 0 255) (.lit 60)), false), ((.lt (.var 0 0 255) (.lit 54)), false), ((.lt (.var 0 0 255) (.lit 48)), false), ((.lt (.var 0 0 255) (.lit 42)), false), ((.lt (.var 0 0 255) (.lit 36)), false), ((.lt (.var 0 0 255) (.lit 30)), false), ((.lt (.var 0 0 255) (.lit 24)), false), ((.lt (.var 0 0 255) (.lit 18)), false), ((.lt (.var 0 0 255) (.lit 12)), false), ((.lt (.var 0 0 255) (.lit 6)), false)]
def exc139 : List Pc := []
theorem start139_yes : startYes Tryd.prog (tabGlob tabs) lawEv 2130220 lawBody lawFn 17 100000 places139 exc139 (psV lawPs 0) (stTab tabs lawPc139) = true := by kernel_rfl
theorem places139_yes : ∀ p ∈ places139, placeYes Tryd.prog (tabGlob tabs) lawEv 2130220 lawBody lawFn 17 100000 places139 exc139 p = true :=
  (fun p h => by cases h)
theorem places139_paths : ∀ p ∈ places139, pathsOk p.stk :=
  (fun p h => by cases h)
theorem exc139_no : ∀ q ∈ exc139, ∀ i, ¬ Holds i q := by intro q hq; cases hq
def places155 : List Sx.Place := []
def lawPc155 : Pc := [((.eq (.var 4 (.negSucc 9223372036854775807) 9223372036854775807) (.lit 0)), true), ((.lt (.var 4 (.negSucc 9223372036854775807) 9223372036854775807) (.lit 0)), false), ((.eq (.var 0 0 255) (.lit 73)), true), ((.eq (.var 0 0 255) (.lit 72)), false), ((.lt (.var 0 0 255) (.lit 78)), true), ((.lt (.var 0 0 255) (.lit 72)), false), ((.lt (.var 0 0 255) (.lit 66)), false), ((.lt (.var 0 0 255) (.lit 60)), false), ((.lt (.var 0 0 255) (.lit 54)), false), ((.lt (.var 0 0 255) (.lit 48)), false), ((.lt (.var 0 0 255) (.lit 42)), false), ((.lt (.var 0 0 255) (.lit 36)), false), ((.lt (.var 0 0 255) (.lit 30)), false), ((.lt (.var 0 0 255) (.lit 24)), false), ((.lt (.var 0 0 255) (.lit 18)), false), ((.lt (.var 0 0 255) (.lit 12)), false), ((.lt (.var 0 0 255) (.lit 6)), false)]
def exc155 : List Pc := []
theorem start155_yes : startYes Tryd.prog (tabGlob tabs) lawEv 2130220 lawBody lawFn 17 100000 places155 exc155 (psV lawPs 0) (stTab tabs lawPc155) = true := by kernel_rfl
theorem places155_yes : ∀ p ∈ places155, placeYes Tryd.prog (tabGlob tabs) lawEv 2130220 lawBody lawFn 17 100000 places155 exc155 p = true :=
  (fun p h => by cases h)
theorem places155_paths : ∀ p ∈ places155, pathsOk p.stk :=
  (fun p h => by cases h)
theorem exc155_no : ∀ q ∈ exc155, ∀ i, ¬ Holds i q := by intro q hq; cases hq
def places171 : List Sx.Place := []
def lawPc171 : Pc := [((.eq (.var 4 (.negSucc 9223372036854775807) 9223372036854775807) (.lit 0)), false), ((.lt (.var 4 (.negSucc 9223372036854775807) 9223372036854775807) (.lit 0)), false), ((.eq (.var 0 0 255) (.lit 78)), true), ((.lt (.var 0 0 255) (.lit 84)), true), ((.lt (.var 0 0 255) (.lit 78)), false), ((.lt (.var 0 0 255) (.lit 72)), false), ((.lt (.var 0 0 255) (.lit 66)), false), ((.lt (.var 0 0 255) (.lit 60)), false), ((.lt (.var 0 0 255) (.lit 54)), false), ((.lt (.var 0 0 255) (.lit 48)), false), ((.lt (.var 0 0 255) (.lit 42)), false), ((.lt (.var 0 0 255) (.lit 36)), false), ((.lt (.var 0 0 255) (.lit 30)), false), ((.lt (.var 0 0 255) (.lit 24)), false), ((.lt (.var 0 0 255) (.lit 18)), false), ((.lt (.var 0 0 255) (.lit 12)), false), ((.lt (.var 0 0 255) (.lit 6)), false)]
def exc171 : List Pc := []
theorem start171_yes : startYes Tryd.prog (tabGlob tabs) lawEv 2130220 lawBody lawFn 17 100000 places171 exc171 (psV lawPs 0) (stTab tabs lawPc171) = true := by kernel_rfl
theorem places171_yes : ∀ p ∈ places171, placeYes Tryd.prog (tabGlob tabs) lawEv 2130220 lawBody lawFn 17 100000 places171 exc171 p = true :=
  (fun p h => by cases h)
theorem places171_paths : ∀ p ∈ places171, pathsOk p.stk :=
  (fun p h => by cases h)
theorem exc171_no : ∀ q ∈ exc171, ∀ i, ¬ Holds i q := by intro q hq; cases hq
def places187 : List Sx.Place := []
def lawPc187 : Pc := [((.lt (.var 4 (.negSucc 9223372036854775807) 9223372036854775807) (.lit 0)), true), ((.eq (.var 0 0 255) (.lit 84)), true), ((.lt (.var 0 0 255) (.lit 90)), true), ((.lt (.var 0 0 255) (.lit 84)), false), ((.lt (.var 0 0 255) (.lit 78)), false), ((.lt (.var 0 0 255) (.lit 72)), false), ((.lt (.var 0 0 255) (.lit 66)), false), ((.lt (.var 0 0 255) (.lit 60)), false), ((.lt (.var 0 0 255) (.lit 54)), false), ((.lt (.var 0 0 255) (.lit 48)), false), ((.lt (.var 0 0 255) (.lit 42)), false), ((.lt (.var 0 0 255) (.lit 36)), false), ((.lt (.var 0 0 255) (.lit 30)), false), ((.lt (.var 0 0 255) (.lit 24)), false), ((.lt (.var 0 0 255) (.lit 18)), false), ((.lt (.var 0 0 255) (.lit 12)), false), ((.lt (.var 0 0 255) (.lit 6)), false)]
def exc187 : List Pc := []
theorem start187_yes : startYes Tryd.prog (tabGlob tabs) lawEv 2130220 lawBody lawFn 17 100000 places187 exc187 (psV lawPs 0) (stTab tabs lawPc187) = true := by kernel_rfl
theorem places187_yes : ∀ p ∈ places187, placeYes Tryd.prog (tabGlob tabs) lawEv 2130220 lawBody lawFn 17 100000 places187 exc187 p = true :=
  (fun p h => by cases h)
theorem places187_paths : ∀ p ∈ places187, pathsOk p.stk :=
  (fun p h => by cases h)
theorem exc187_no : ∀ q ∈ exc187, ∀ i, ¬ Holds i q := by intro q hq; cases hq
def places203 : List Sx.Place := []
def lawPc203 : Pc := [((.eq (.var 4 (.negSucc 9223372036854775807) 9223372036854775807) (.lit 0)), true), ((.lt (.var 4 (.negSucc 9223372036854775807) 9223372036854775807) (.lit 0)), false), ((.eq (.var 0 0 255) (.lit 88)), false), ((.eq (.var 0 0 255) (.lit 87)), false), ((.eq (.var 0 0 255) (.lit 86)), false), ((.eq (.var 0 0 255) (.lit 85)), false), ((.eq (.var 0 0 255) (.lit 84)), false), ((.lt (.var 0 0 255) (.lit 90)), true), ((.lt (.var 0 0 255) (.lit 84)), false), ((.lt (.var 0 0 255) (.lit 78)), false), ((.lt (.var 0 0 255) (.lit 72)), false), ((.lt (.var 0 0 255) (.lit 66)), false), ((.lt (.var 0 0 255) (.lit 60)), false), ((.lt (.var 0 0 255) (.lit 54)), false), ((.lt (.var 0 0 255) (.lit 48)), false), ((.lt (.var 0 0 255) (.lit 42)), false), ((.lt (.var 0 0 255) (.lit 36)), false), ((.lt (.var 0 0 255) (.lit 30)), false), ((.lt (.var 0 0 255) (.lit 24)), false), ((.lt (.var 0 0 255) (.lit 18)), false), ((.lt (.var 0 0 255) (.lit 12)), false), ((.lt (.var 0 0 255) (.lit 6)), false)]
def exc203 : List Pc := []
theorem start203_yes : startYes Tryd.prog (tabGlob tabs) lawEv 2130220 lawBody lawFn 17 100000 places203 exc203 (psV lawPs 0) (stTab tabs lawPc203) = true := by kernel_rfl
theorem places203_yes : ∀ p ∈ places203, placeYes Tryd.prog (tabGlob tabs) lawEv 2130220 lawBody lawFn 17 100000 places203 exc203 p = true :=
  (fun p h => by cases h)
theorem places203_paths : ∀ p ∈ places203, pathsOk p.stk :=
  (fun p h => by cases h)
theorem exc203_no : ∀ q ∈ exc203, ∀ i, ¬ Holds i q := by intro q hq; cases hq
def places219 : List Sx.Place := []
def lawPc219 : Pc := [((.eq (.var 4 (.negSucc 9223372036854775807) 9223372036854775807) (.lit 0)), false), ((.lt (.var 4 (.negSucc 9223372036854775807) 9223372036854775807) (.lit 0)), false), ((.eq (.var 0 0 255) (.lit 96)), true), ((.lt (.var 0 0 255) (.lit 99)), true), ((.lt (.var 0 0 255) (.lit 96)), false), ((.lt (.var 0 0 255) (.lit 90)), false), ((.lt (.var 0 0 255) (.lit 84)), false), ((.lt (.var 0 0 255) (.lit 78)), false), ((.lt (.var 0 0 255) (.lit 72)), false), ((.lt (.var 0 0 255) (.lit 66)), false), ((.lt (.var 0 0 255) (.lit 60)), false), ((.lt (.var 0 0 255) (.lit 54)), false), ((.lt (.var 0 0 255) (.lit 48)), false), ((.lt (.var 0 0 255) (.lit 42)), false), ((.lt (.var 0 0 255) (.lit 36)), false), ((.lt (.var 0 0 255) (.lit 30)), false), ((.lt (.var 0 0 255) (.lit 24)), false), ((.lt (.var 0 0 255) (.lit 18)), false), ((.lt (.var 0 0 255) (.lit 12)), false), ((.lt (.var 0 0 255) (.lit 6)), false)]
def exc219 : List Pc := []
theorem start219_yes : startYes Tryd.prog (tabGlob tabs) lawEv 2130220 lawBody lawFn 17 100000 places219 exc219 (psV lawPs 0) (stTab tabs lawPc219) = true := by kernel_rfl
theorem places219_yes : ∀ p ∈ places219, placeYes Tryd.prog (tabGlob tabs) lawEv 2130220 lawBody lawFn 17 100000 places219 exc219 p = true :=
  (fun p h => by cases h)
theorem places219_paths : ∀ p ∈ places219, pathsOk p.stk :=
  (fun p h => by cases h)
theorem exc219_no : ∀ q ∈ exc219, ∀ i, ¬ Holds i q := by intro q hq; cases hq
end
end Go.Proofs.YtjlfojjkdeflpaaDoor.Sx
