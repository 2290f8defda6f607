/- InstChecks: a part of its cases. -/
import Derived.Test.YtjlfojjkdeflpaaDoorUInstChecks
set_option linter.unusedVariables false
set_option linter.unusedSimpArgs false
namespace Go.Proofs.YtjlfojjkdeflpaaDoor.Sx
open Go
noncomputable section
set_option maxRecDepth 100000
def places7 : List Sx.Place := []
def lawPc7 : Pc := [((.eq (.var 0 0 255) (.lit 7)), true), ((.eq (.var 0 0 255) (.lit 6)), false), ((.lt (.var 0 0 255) (.lit 12)), true), ((.lt (.var 0 0 255) (.lit 6)), false)]
def exc7 : List Pc := []
theorem start7_yes : startYes Tryd.prog (tabGlob tabs) lawEv 2130220 lawBody lawFn 17 100000 places7 exc7 (psV lawPs 0) (stTab tabs lawPc7) = true := by kernel_rfl
theorem places7_yes : ∀ p ∈ places7, placeYes Tryd.prog (tabGlob tabs) lawEv 2130220 lawBody lawFn 17 100000 places7 exc7 p = true :=
  (fun p h => by cases h)
theorem places7_paths : ∀ p ∈ places7, pathsOk p.stk :=
  (fun p h => by cases h)
theorem exc7_no : ∀ q ∈ exc7, ∀ i, ¬ Holds i q := by intro q hq; cases hq
def places23 : List Sx.Place := []
def lawPc23 : Pc := [((.eq (.ar .and .u32 (.ar .or .u32 (.ar .or .u32 (.ar .or .u32 (.lit 19) (.ar .shl .u32 (.var 1 0 255) (.lit 7))) (.ar .shl .u32 (.var 2 0 255) (.lit 15))) (.conv .u32 (.ar .shl .u64 (.ar .rem .u64 (.conv .u64 (.var 4 (-9223372036854775808) 9223372036854775807)) (.lit 4096)) (.lit 20)))) (.lit 28799)) (.lit 19)), true), ((.lt (.var 1 0 255) (.lit 32)), true), ((.eq (.var 0 0 255) (.lit 22)), true), ((.eq (.var 0 0 255) (.lit 21)), false), ((.eq (.var 0 0 255) (.lit 20)), false), ((.eq (.var 0 0 255) (.lit 19)), false), ((.eq (.var 0 0 255) (.lit 18)), false), ((.lt (.var 0 0 255) (.lit 24)), true), ((.lt (.var 0 0 255) (.lit 18)), false), ((.lt (.var 0 0 255) (.lit 12)), false), ((.lt (.var 0 0 255) (.lit 6)), false)]
def exc23 : List Pc := []
theorem start23_yes : startYes Tryd.prog (tabGlob tabs) lawEv 2130220 lawBody lawFn 17 100000 places23 exc23 (psV lawPs 0) (stTab tabs lawPc23) = true := by kernel_rfl
theorem places23_yes : ∀ p ∈ places23, placeYes Tryd.prog (tabGlob tabs) lawEv 2130220 lawBody lawFn 17 100000 places23 exc23 p = true :=
  (fun p h => by cases h)
theorem places23_paths : ∀ p ∈ places23, pathsOk p.stk :=
  (fun p h => by cases h)
theorem exc23_no : ∀ q ∈ exc23, ∀ i, ¬ Holds i q := by intro q hq; cases hq
def places39 : List Sx.Place := []
def lawPc39 : Pc := [((.lt (.var 4 (.negSucc 9223372036854775807) 9223372036854775807) (.lit 0)), true), ((.eq (.var 0 0 255) (.lit 32)), true), ((.eq (.var 0 0 255) (.lit 31)), false), ((.eq (.var 0 0 255) (.lit 30)), false), ((.lt (.var 0 0 255) (.lit 36)), true), ((.lt (.var 0 0 255) (.lit 30)), false), ((.lt (.var 0 0 255) (.lit 24)), false), ((.lt (.var 0 0 255) (.lit 18)), false), ((.lt (.var 0 0 255) (.lit 12)), false), ((.lt (.var 0 0 255) (.lit 6)), false)]
def exc39 : List Pc := []
theorem start39_yes : startYes Tryd.prog (tabGlob tabs) lawEv 2130220 lawBody lawFn 17 100000 places39 exc39 (psV lawPs 0) (stTab tabs lawPc39) = true := by kernel_rfl
theorem places39_yes : ∀ p ∈ places39, placeYes Tryd.prog (tabGlob tabs) lawEv 2130220 lawBody lawFn 17 100000 places39 exc39 p = true :=
  (fun p h => by cases h)
theorem places39_paths : ∀ p ∈ places39, pathsOk p.stk :=
  (fun p h => by cases h)
theorem exc39_no : ∀ q ∈ exc39, ∀ i, ¬ Holds i q := by intro q hq; cases hq
def places55 : List Sx.Place := []
def lawPc55 : Pc := [((.eq (.var 4 (.negSucc 9223372036854775807) 9223372036854775807) (.lit 0)), true), ((.lt (.var 4 (.negSucc 9223372036854775807) 9223372036854775807) (.lit 0)), false), ((.eq (.var 0 0 255) (.lit 37)), true), ((.eq (.var 0 0 255) (.lit 36)), false), ((.lt (.var 0 0 255) (.lit 42)), true), ((.lt (.var 0 0 255) (.lit 36)), false), ((.lt (.var 0 0 255) (.lit 30)), false), ((.lt (.var 0 0 255) (.lit 24)), false), ((.lt (.var 0 0 255) (.lit 18)), false), ((.lt (.var 0 0 255) (.lit 12)), false), ((.lt (.var 0 0 255) (.lit 6)), false)]
def exc55 : List Pc := []
theorem start55_yes : startYes Tryd.prog (tabGlob tabs) lawEv 2130220 lawBody lawFn 17 100000 places55 exc55 (psV lawPs 0) (stTab tabs lawPc55) = true := by kernel_rfl
theorem places55_yes : ∀ p ∈ places55, placeYes Tryd.prog (tabGlob tabs) lawEv 2130220 lawBody lawFn 17 100000 places55 exc55 p = true :=
  (fun p h => by cases h)
theorem places55_paths : ∀ p ∈ places55, pathsOk p.stk :=
  (fun p h => by cases h)
theorem exc55_no : ∀ q ∈ exc55, ∀ i, ¬ Holds i q := by intro q hq; cases hq
def places71 : List Sx.Place := []
def lawPc71 : Pc := [((.eq (.var 4 (.negSucc 9223372036854775807) 9223372036854775807) (.lit 0)), true), ((.lt (.var 4 (.negSucc 9223372036854775807) 9223372036854775807) (.lit 0)), false), ((.eq (.var 0 0 255) (.lit 45)), true), ((.eq (.var 0 0 255) (.lit 44)), false), ((.eq (.var 0 0 255) (.lit 43)), false), ((.eq (.var 0 0 255) (.lit 42)), false), ((.lt (.var 0 0 255) (.lit 48)), true), ((.lt (.var 0 0 255) (.lit 42)), false), ((.lt (.var 0 0 255) (.lit 36)), false), ((.lt (.var 0 0 255) (.lit 30)), false), ((.lt (.var 0 0 255) (.lit 24)), false), ((.lt (.var 0 0 255) (.lit 18)), false), ((.lt (.var 0 0 255) (.lit 12)), false), ((.lt (.var 0 0 255) (.lit 6)), false)]
def exc71 : List Pc := []
theorem start71_yes : startYes Tryd.prog (tabGlob tabs) lawEv 2130220 lawBody lawFn 17 100000 places71 exc71 (psV lawPs 0) (stTab tabs lawPc71) = true := by kernel_rfl
theorem places71_yes : ∀ p ∈ places71, placeYes Tryd.prog (tabGlob tabs) lawEv 2130220 lawBody lawFn 17 100000 places71 exc71 p = true :=
  (fun p h => by cases h)
theorem places71_paths : ∀ p ∈ places71, pathsOk p.stk :=
  (fun p h => by cases h)
theorem exc71_no : ∀ q ∈ exc71, ∀ i, ¬ Holds i q := by intro q hq; cases hq
def places87 : List Sx.Place := []
def lawPc87 : Pc := [((.eq (.var 4 (.negSucc 9223372036854775807) 9223372036854775807) (.lit 0)), false), ((.lt (.var 4 (.negSucc 9223372036854775807) 9223372036854775807) (.lit 0)), false), ((.eq (.var 0 0 255) (.lit 50)), true), ((.eq (.var 0 0 255) (.lit 49)), false), ((.eq (.var 0 0 255) (.lit 48)), false), ((.lt (.var 0 0 255) (.lit 54)), true), ((.lt (.var 0 0 255) (.lit 48)), false), ((.lt (.var 0 0 255) (.lit 42)), false), ((.lt (.var 0 0 255) (.lit 36)), false), ((.lt (.var 0 0 255) (.lit 30)), false), ((.lt (.var 0 0 255) (.lit 24)), false), ((.lt (.var 0 0 255) (.lit 18)), false), ((.lt (.var 0 0 255) (.lit 12)), false), ((.lt (.var 0 0 255) (.lit 6)), false)]
def exc87 : List Pc := []
theorem start87_yes : startYes Tryd.prog (tabGlob tabs) lawEv 2130220 lawBody lawFn 17 100000 places87 exc87 (psV lawPs 0) (stTab tabs lawPc87) = true := by kernel_rfl
theorem places87_yes : ∀ p ∈ places87, placeYes Tryd.prog (tabGlob tabs) lawEv 2130220 lawBody lawFn 17 100000 places87 exc87 p = true :=
  (fun p h => by cases h)
theorem places87_paths : ∀ p ∈ places87, pathsOk p.stk :=
  (fun p h => by cases h)
theorem exc87_no : ∀ q ∈ exc87, ∀ i, ¬ Holds i q := by intro q hq; cases hq
def places103 : List Sx.Place := []
def lawPc103 : Pc := [((.lt (.var 4 (.negSucc 9223372036854775807) 9223372036854775807) (.lit 0)), true), ((.eq (.var 0 0 255) (.lit 56)), true), ((.eq (.var 0 0 255) (.lit 55)), false), ((.eq (.var 0 0 255) (.lit 54)), false), ((.lt (.var 0 0 255) (.lit 60)), true), ((.lt (.var 0 0 255) (.lit 54)), false), ((.lt (.var 0 0 255) (.lit 48)), false), ((.lt (.var 0 0 255) (.lit 42)), false), ((.lt (.var 0 0 255) (.lit 36)), false), ((.lt (.var 0 0 255) (.lit 30)), false), ((.lt (.var 0 0 255) (.lit 24)), false), ((.lt (.var 0 0 255) (.lit 18)), false), ((.lt (.var 0 0 255) (.lit 12)), false), ((.lt (.var 0 0 255) (.lit 6)), false)]
def exc103 : List Pc := []
theorem start103_yes : startYes Tryd.prog (tabGlob tabs) lawEv 2130220 lawBody lawFn 17 100000 places103 exc103 (psV lawPs 0) (stTab tabs lawPc103) = true := by kernel_rfl
theorem places103_yes : ∀ p ∈ places103, placeYes Tryd.prog (tabGlob tabs) lawEv 2130220 lawBody lawFn 17 100000 places103 exc103 p = true :=
  (fun p h => by cases h)
theorem places103_paths : ∀ p ∈ places103, pathsOk p.stk :=
  (fun p h => by cases h)
theorem exc103_no : ∀ q ∈ exc103, ∀ i, ¬ Holds i q := by intro q hq; cases hq
def places119 : List Sx.Place := []
def lawPc119 : Pc := [((.eq (.var 4 (.negSucc 9223372036854775807) 9223372036854775807) (.lit 0)), true), ((.lt (.var 4 (.negSucc 9223372036854775807) 9223372036854775807) (.lit 0)), false), ((.eq (.var 0 0 255) (.lit 61)), true), ((.eq (.var 0 0 255) (.lit 60)), false), ((.lt (.var 0 0 255) (.lit 66)), true), ((.lt (.var 0 0 255) (.lit 60)), false), ((.lt (.var 0 0 255) (.lit 54)), false), ((.lt (.var 0 0 255) (.lit 48)), false), ((.lt (.var 0 0 255) (.lit 42)), false), ((.lt (.var 0 0 255) (.lit 36)), false), ((.lt (.var 0 0 255) (.lit 30)), false), ((.lt (.var 0 0 255) (.lit 24)), false), ((.lt (.var 0 0 255) (.lit 18)), false), ((.lt (.var 0 0 255) (.lit 12)), false), ((.lt (.var 0 0 255) (.lit 6)), false)]
def exc119 : List Pc := []
theorem start119_yes : startYes Tryd.prog (tabGlob tabs) lawEv 2130220 lawBody lawFn 17 100000 places119 exc119 (psV lawPs 0) (stTab tabs lawPc119) = true := by kernel_rfl
theorem places119_yes : ∀ p ∈ places119, placeYes Tryd.prog (tabGlob tabs) lawEv 2130220 lawBody lawFn 17 100000 places119 exc119 p = true :=
  (fun p h => by cases h)
theorem places119_paths : ∀ p ∈ places119, pathsOk p.stk :=
  (fun p h => by cases h)
theorem exc119_no : ∀ q ∈ exc119, ∀ i, ¬ Holds i q := by intro q hq; cases hq
def places135 : List Sx.Place := []
def lawPc135 : Pc := [((.eq (.var 4 (.negSucc 9223372036854775807) 9223372036854775807) (.lit 0)), false), ((.lt (.var 4 (.negSucc 9223372036854775807) 9223372036854775807) (.lit 0)), false), ((.eq (.var 0 0 255) (.lit 66)), true), ((.lt (.var 0 0 255) (.lit 72)), true), ((.lt (.var 0 0 255) (.lit 66)), false), ((.lt (.var 0 0 255) (.lit 60)), false), ((.lt (.var 0 0 255) (.lit 54)), false), ((.lt (.var 0 0 255) (.lit 48)), false), ((.lt (.var 0 0 255) (.lit 42)), false), ((.lt (.var 0 0 255) (.lit 36)), false), ((.lt (.var 0 0 255) (.lit 30)), false), ((.lt (.var 0 0 255) (.lit 24)), false), ((.lt (.var 0 0 255) (.lit 18)), false), ((.lt (.var 0 0 255) (.lit 12)), false), ((.lt (.var 0 0 255) (.lit 6)), false)]
def exc135 : List Pc := []
theorem start135_yes : startYes Tryd.prog (tabGlob tabs) lawEv 2130220 lawBody lawFn 17 100000 places135 exc135 (psV lawPs 0) (stTab tabs lawPc135) = true := by kernel_rfl
theorem places135_yes : ∀ p ∈ places135, placeYes Tryd.prog (tabGlob tabs) lawEv 2130220 lawBody lawFn 17 100000 places135 exc135 p = true :=
  (fun p h => by cases h)
theorem places135_paths : ∀ p ∈ places135, pathsOk p.stk :=
  (fun p h => by cases h)
theorem exc135_no : ∀ q ∈ exc135, ∀ i, ¬ Holds i q := by intro q hq; cases hq
def places151 : List Sx.Place := []
def lawPc151 : Pc := [((.lt (.var 4 (.negSucc 9223372036854775807) 9223372036854775807) (.lit 0)), true), ((.eq (.var 0 0 255) (.lit 72)), true), ((.lt (.var 0 0 255) (.lit 78)), true), ((.lt (.var 0 0 255) (.lit 72)), false), ((.lt (.var 0 0 255) (.lit 66)), false), ((.lt (.var 0 0 255) (.lit 60)), false), ((.lt (.var 0 0 255) (.lit 54)), false), ((.lt (.var 0 0 255) (.lit 48)), false), ((.lt (.var 0 0 255) (.lit 42)), false), ((.lt (.var 0 0 255) (.lit 36)), false), ((.lt (.var 0 0 255) (.lit 30)), false), ((.lt (.var 0 0 255) (.lit 24)), false), ((.lt (.var 0 0 255) (.lit 18)), false), ((.lt (.var 0 0 255) (.lit 12)), false), ((.lt (.var 0 0 255) (.lit 6)), false)]
def exc151 : List Pc := []
theorem start151_yes : startYes Tryd.prog (tabGlob tabs) lawEv 2130220 lawBody lawFn 17 100000 places151 exc151 (psV lawPs 0) (stTab tabs lawPc151) = true := by kernel_rfl
theorem places151_yes : ∀ p ∈ places151, placeYes Tryd.prog (tabGlob tabs) lawEv 2130220 lawBody lawFn 17 100000 places151 exc151 p = true :=
  (fun p h => by cases h)
theorem places151_paths : ∀ p ∈ places151, pathsOk p.stk :=
  (fun p h => by cases h)
theorem exc151_no : ∀ q ∈ exc151, ∀ i, ¬ Holds i q := by intro q hq; cases hq
def places167 : List Sx.Place := []
def lawPc167 : Pc := [((.eq (.var 4 (.negSucc 9223372036854775807) 9223372036854775807) (.lit 0)), true), ((.lt (.var 4 (.negSucc 9223372036854775807) 9223372036854775807) (.lit 0)), false), ((.eq (.var 0 0 255) (.lit 76)), false), ((.eq (.var 0 0 255) (.lit 75)), false), ((.eq (.var 0 0 255) (.lit 74)), false), ((.eq (.var 0 0 255) (.lit 73)), false), ((.eq (.var 0 0 255) (.lit 72)), false), ((.lt (.var 0 0 255) (.lit 78)), true), ((.lt (.var 0 0 255) (.lit 72)), false), ((.lt (.var 0 0 255) (.lit 66)), false), ((.lt (.var 0 0 255) (.lit 60)), false), ((.lt (.var 0 0 255) (.lit 54)), false), ((.lt (.var 0 0 255) (.lit 48)), false), ((.lt (.var 0 0 255) (.lit 42)), false), ((.lt (.var 0 0 255) (.lit 36)), false), ((.lt (.var 0 0 255) (.lit 30)), false), ((.lt (.var 0 0 255) (.lit 24)), false), ((.lt (.var 0 0 255) (.lit 18)), false), ((.lt (.var 0 0 255) (.lit 12)), false), ((.lt (.var 0 0 255) (.lit 6)), false)]
def exc167 : List Pc := []
theorem start167_yes : startYes Tryd.prog (tabGlob tabs) lawEv 2130220 lawBody lawFn 17 100000 places167 exc167 (psV lawPs 0) (stTab tabs lawPc167) = true := by kernel_rfl
theorem places167_yes : ∀ p ∈ places167, placeYes Tryd.prog (tabGlob tabs) lawEv 2130220 lawBody lawFn 17 100000 places167 exc167 p = true :=
  (fun p h => by cases h)
theorem places167_paths : ∀ p ∈ places167, pathsOk p.stk :=
  (fun p h => by cases h)
theorem exc167_no : ∀ q ∈ exc167, ∀ i, ¬ Holds i q := by intro q hq; cases hq
def places183 : List Sx.Place := []
def lawPc183 : Pc := [((.eq (.var 4 (.negSucc 9223372036854775807) 9223372036854775807) (.lit 0)), false), ((.lt (.var 4 (.negSucc 9223372036854775807) 9223372036854775807) (.lit 0)), false), ((.eq (.var 0 0 255) (.lit 82)), true), ((.eq (.var 0 0 255) (.lit 81)), false), ((.eq (.var 0 0 255) (.lit 80)), false), ((.eq (.var 0 0 255) (.lit 79)), false), ((.eq (.var 0 0 255) (.lit 78)), false), ((.lt (.var 0 0 255) (.lit 84)), true), ((.lt (.var 0 0 255) (.lit 78)), false), ((.lt (.var 0 0 255) (.lit 72)), false), ((.lt (.var 0 0 255) (.lit 66)), false), ((.lt (.var 0 0 255) (.lit 60)), false), ((.lt (.var 0 0 255) (.lit 54)), false), ((.lt (.var 0 0 255) (.lit 48)), false), ((.lt (.var 0 0 255) (.lit 42)), false), ((.lt (.var 0 0 255) (.lit 36)), false), ((.lt (.var 0 0 255) (.lit 30)), false), ((.lt (.var 0 0 255) (.lit 24)), false), ((.lt (.var 0 0 255) (.lit 18)), false), ((.lt (.var 0 0 255) (.lit 12)), false), ((.lt (.var 0 0 255) (.lit 6)), false)]
def exc183 : List Pc := []
theorem start183_yes : startYes Tryd.prog (tabGlob tabs) lawEv 2130220 lawBody lawFn 17 100000 places183 exc183 (psV lawPs 0) (stTab tabs lawPc183) = true := by kernel_rfl
theorem places183_yes : ∀ p ∈ places183, placeYes Tryd.prog (tabGlob tabs) lawEv 2130220 lawBody lawFn 17 100000 places183 exc183 p = true :=
  (fun p h => by cases h)
theorem places183_paths : ∀ p ∈ places183, pathsOk p.stk :=
  (fun p h => by cases h)
theorem exc183_no : ∀ q ∈ exc183, ∀ i, ¬ Holds i q := by intro q hq; cases hq
def places199 : List Sx.Place := []
def lawPc199 : Pc := [((.lt (.var 4 (.negSucc 9223372036854775807) 9223372036854775807) (.lit 0)), true), ((.eq (.var 0 0 255) (.lit 88)), true), ((.eq (.var 0 0 255) (.lit 87)), false), ((.eq (.var 0 0 255) (.lit 86)), false), ((.eq (.var 0 0 255) (.lit 85)), false), ((.eq (.var 0 0 255) (.lit 84)), false), ((.lt (.var 0 0 255) (.lit 90)), true), ((.lt (.var 0 0 255) (.lit 84)), false), ((.lt (.var 0 0 255) (.lit 78)), false), ((.lt (.var 0 0 255) (.lit 72)), false), ((.lt (.var 0 0 255) (.lit 66)), false), ((.lt (.var 0 0 255) (.lit 60)), false), ((.lt (.var 0 0 255) (.lit 54)), false), ((.lt (.var 0 0 255) (.lit 48)), false), ((.lt (.var 0 0 255) (.lit 42)), false), ((.lt (.var 0 0 255) (.lit 36)), false), ((.lt (.var 0 0 255) (.lit 30)), false), ((.lt (.var 0 0 255) (.lit 24)), false), ((.lt (.var 0 0 255) (.lit 18)), false), ((.lt (.var 0 0 255) (.lit 12)), false), ((.lt (.var 0 0 255) (.lit 6)), false)]
def exc199 : List Pc := []
theorem start199_yes : startYes Tryd.prog (tabGlob tabs) lawEv 2130220 lawBody lawFn 17 100000 places199 exc199 (psV lawPs 0) (stTab tabs lawPc199) = true := by kernel_rfl
theorem places199_yes : ∀ p ∈ places199, placeYes Tryd.prog (tabGlob tabs) lawEv 2130220 lawBody lawFn 17 100000 places199 exc199 p = true :=
  (fun p h => by cases h)
theorem places199_paths : ∀ p ∈ places199, pathsOk p.stk :=
  (fun p h => by cases h)
theorem exc199_no : ∀ q ∈ exc199, ∀ i, ¬ Holds i q := by intro q hq; cases hq
def places215 : List Sx.Place := []
def lawPc215 : Pc := [((.eq (.var 4 (.negSucc 9223372036854775807) 9223372036854775807) (.lit 0)), true), ((.lt (.var 4 (.negSucc 9223372036854775807) 9223372036854775807) (.lit 0)), false), ((.eq (.var 0 0 255) (.lit 94)), false), ((.eq (.var 0 0 255) (.lit 93)), false), ((.eq (.var 0 0 255) (.lit 92)), false), ((.eq (.var 0 0 255) (.lit 91)), false), ((.eq (.var 0 0 255) (.lit 90)), false), ((.lt (.var 0 0 255) (.lit 96)), true), ((.lt (.var 0 0 255) (.lit 90)), false), ((.lt (.var 0 0 255) (.lit 84)), false), ((.lt (.var 0 0 255) (.lit 78)), false), ((.lt (.var 0 0 255) (.lit 72)), false), ((.lt (.var 0 0 255) (.lit 66)), false), ((.lt (.var 0 0 255) (.lit 60)), false), ((.lt (.var 0 0 255) (.lit 54)), false), ((.lt (.var 0 0 255) (.lit 48)), false), ((.lt (.var 0 0 255) (.lit 42)), false), ((.lt (.var 0 0 255) (.lit 36)), false), ((.lt (.var 0 0 255) (.lit 30)), false), ((.lt (.var 0 0 255) (.lit 24)), false), ((.lt (.var 0 0 255) (.lit 18)), false), ((.lt (.var 0 0 255) (.lit 12)), false), ((.lt (.var 0 0 255) (.lit 6)), false)]
def exc215 : List Pc := []
theorem start215_yes : startYes Tryd.prog (tabGlob tabs) lawEv 2130220 lawBody lawFn 17 100000 places215 exc215 (psV lawPs 0) (stTab tabs lawPc215) = true := by kernel_rfl
theorem places215_yes : ∀ p ∈ places215, placeYes Tryd.prog (tabGlob tabs) lawEv 2130220 lawBody lawFn 17 100000 places215 exc215 p = true :=
  (fun p h => by cases h)
theorem places215_paths : ∀ p ∈ places215, pathsOk p.stk :=
  (fun p h => by cases h)
theorem exc215_no : ∀ q ∈ exc215, ∀ i, ¬ Holds i q := by intro q hq; cases hq
end
end Go.Proofs.YtjlfojjkdeflpaaDoor.Sx
