/- InstChecks: a part of its cases. -/
import Derived.Test.YtjlfojjkdeflpaaDoorUInstChecks
set_option linter.unusedVariables false
set_option linter.unusedSimpArgs false
namespace Go.Proofs.YtjlfojjkdeflpaaDoor.Sx
open Go
noncomputable section
set_option maxRecDepth 100000
def places8 : List Sx.Place := []
def lawPc8 : Pc := [((.eq (.var 0 0 255) (.lit 8)), true), ((.eq (.var 0 0 255) (.lit 7)), false), ((.eq (.var 0 0 255) (.lit 6)), false), ((.lt (.var 0 0 255) (.lit 12)), true), ((.lt (.var 0 0 255) (.lit 6)), false)]
def exc8 : List Pc := []
theorem start8_yes : startYes Tryd.prog (tabGlob tabs) lawEv 2130220 lawBody lawFn 17 100000 places8 exc8 (psV lawPs 0) (stTab tabs lawPc8) = true := by kernel_rfl
theorem places8_yes : ∀ p ∈ places8, placeYes Tryd.prog (tabGlob tabs) lawEv 2130220 lawBody lawFn 17 100000 places8 exc8 p = true :=
  (fun p h => by cases h)
theorem places8_paths : ∀ p ∈ places8, pathsOk p.stk :=
  (fun p h => by cases h)
theorem exc8_no : ∀ q ∈ exc8, ∀ i, ¬ Holds i q := by intro q hq; cases hq
def places24 : List Sx.Place := []
def lawPc24 : Pc := [((.lt (.var 1 0 255) (.lit 32)), false), ((.eq (.var 0 0 255) (.lit 22)), true), ((.eq (.var 0 0 255) (.lit 21)), false), ((.eq (.var 0 0 255) (.lit 20)), false), ((.eq (.var 0 0 255) (.lit 19)), false), ((.eq (.var 0 0 255) (.lit 18)), false), ((.lt (.var 0 0 255) (.lit 24)), true), ((.lt (.var 0 0 255) (.lit 18)), false), ((.lt (.var 0 0 255) (.lit 12)), false), ((.lt (.var 0 0 255) (.lit 6)), false)]
def exc24 : List Pc := []
theorem start24_yes : startYes Tryd.prog (tabGlob tabs) lawEv 2130220 lawBody lawFn 17 100000 places24 exc24 (psV lawPs 0) (stTab tabs lawPc24) = true := by kernel_rfl
theorem places24_yes : ∀ p ∈ places24, placeYes Tryd.prog (tabGlob tabs) lawEv 2130220 lawBody lawFn 17 100000 places24 exc24 p = true :=
  (fun p h => by cases h)
theorem places24_paths : ∀ p ∈ places24, pathsOk p.stk :=
  (fun p h => by cases h)
theorem exc24_no : ∀ q ∈ exc24, ∀ i, ¬ Holds i q := by intro q hq; cases hq
def places40 : List Sx.Place := []
def lawPc40 : Pc := [((.eq (.var 4 (.negSucc 9223372036854775807) 9223372036854775807) (.lit 0)), true), ((.lt (.var 4 (.negSucc 9223372036854775807) 9223372036854775807) (.lit 0)), false), ((.eq (.var 0 0 255) (.lit 32)), true), ((.eq (.var 0 0 255) (.lit 31)), false), ((.eq (.var 0 0 255) (.lit 30)), false), ((.lt (.var 0 0 255) (.lit 36)), true), ((.lt (.var 0 0 255) (.lit 30)), false), ((.lt (.var 0 0 255) (.lit 24)), false), ((.lt (.var 0 0 255) (.lit 18)), false), ((.lt (.var 0 0 255) (.lit 12)), false), ((.lt (.var 0 0 255) (.lit 6)), false)]
def exc40 : List Pc := []
theorem start40_yes : startYes Tryd.prog (tabGlob tabs) lawEv 2130220 lawBody lawFn 17 100000 places40 exc40 (psV lawPs 0) (stTab tabs lawPc40) = true := by kernel_rfl
theorem places40_yes : ∀ p ∈ places40, placeYes Tryd.prog (tabGlob tabs) lawEv 2130220 lawBody lawFn 17 100000 places40 exc40 p = true :=
  (fun p h => by cases h)
theorem places40_paths : ∀ p ∈ places40, pathsOk p.stk :=
  (fun p h => by cases h)
theorem exc40_no : ∀ q ∈ exc40, ∀ i, ¬ Holds i q := by intro q hq; cases hq
def places56 : List Sx.Place := []
def lawPc56 : Pc := [((.eq (.var 4 (.negSucc 9223372036854775807) 9223372036854775807) (.lit 0)), false), ((.lt (.var 4 (.negSucc 9223372036854775807) 9223372036854775807) (.lit 0)), false), ((.eq (.var 0 0 255) (.lit 37)), true), ((.eq (.var 0 0 255) (.lit 36)), false), ((.lt (.var 0 0 255) (.lit 42)), true), ((.lt (.var 0 0 255) (.lit 36)), false), ((.lt (.var 0 0 255) (.lit 30)), false), ((.lt (.var 0 0 255) (.lit 24)), false), ((.lt (.var 0 0 255) (.lit 18)), false), ((.lt (.var 0 0 255) (.lit 12)), false), ((.lt (.var 0 0 255) (.lit 6)), false)]
def exc56 : List Pc := []
theorem start56_yes : startYes Tryd.prog (tabGlob tabs) lawEv 2130220 lawBody lawFn 17 100000 places56 exc56 (psV lawPs 0) (stTab tabs lawPc56) = true := by kernel_rfl
theorem places56_yes : ∀ p ∈ places56, placeYes Tryd.prog (tabGlob tabs) lawEv 2130220 lawBody lawFn 17 100000 places56 exc56 p = true :=
  (fun p h => by cases h)
theorem places56_paths : ∀ p ∈ places56, pathsOk p.stk :=
  (fun p h => by cases h)
theorem exc56_no : ∀ q ∈ exc56, ∀ i, ¬ Holds i q := by intro q hq; cases hq
def places72 : List Sx.Place := []
def lawPc72 : Pc := [((.eq (.var 4 (.negSucc 9223372036854775807) 9223372036854775807) (.lit 0)), false), ((.lt (.var 4 (.negSucc 9223372036854775807) 9223372036854775807) (.lit 0)), false), ((.eq (.var 0 0 255) (.lit 45)), true), ((.eq (.var 0 0 255) (.lit 44)), false), ((.eq (.var 0 0 255) (.lit 43)), false), ((.eq (.var 0 0 255) (.lit 42)), false), ((.lt (.var 0 0 255) (.lit 48)), true), ((.lt (.var 0 0 255) (.lit 42)), false), ((.lt (.var 0 0 255) (.lit 36)), false), ((.lt (.var 0 0 255) (.lit 30)), false), ((.lt (.var 0 0 255) (.lit 24)), false), ((.lt (.var 0 0 255) (.lit 18)), false), ((.lt (.var 0 0 255) (.lit 12)), false), ((.lt (.var 0 0 255) (.lit 6)), false)]
def exc72 : List Pc := []
theorem start72_yes : startYes Tryd.prog (tabGlob tabs) lawEv 2130220 lawBody lawFn 17 100000 places72 exc72 (psV lawPs 0) (stTab tabs lawPc72) = true := by kernel_rfl
theorem places72_yes : ∀ p ∈ places72, placeYes Tryd.prog (tabGlob tabs) lawEv 2130220 lawBody lawFn 17 100000 places72 exc72 p = true :=
  (fun p h => by cases h)
theorem places72_paths : ∀ p ∈ places72, pathsOk p.stk :=
  (fun p h => by cases h)
theorem exc72_no : ∀ q ∈ exc72, ∀ i, ¬ Holds i q := by intro q hq; cases hq
def places88 : List Sx.Place := []
def lawPc88 : Pc := [((.lt (.var 4 (.negSucc 9223372036854775807) 9223372036854775807) (.lit 0)), true), ((.eq (.var 0 0 255) (.lit 51)), true), ((.eq (.var 0 0 255) (.lit 50)), false), ((.eq (.var 0 0 255) (.lit 49)), false), ((.eq (.var 0 0 255) (.lit 48)), false), ((.lt (.var 0 0 255) (.lit 54)), true), ((.lt (.var 0 0 255) (.lit 48)), false), ((.lt (.var 0 0 255) (.lit 42)), false), ((.lt (.var 0 0 255) (.lit 36)), false), ((.lt (.var 0 0 255) (.lit 30)), false), ((.lt (.var 0 0 255) (.lit 24)), false), ((.lt (.var 0 0 255) (.lit 18)), false), ((.lt (.var 0 0 255) (.lit 12)), false), ((.lt (.var 0 0 255) (.lit 6)), false)]
def exc88 : List Pc := []
theorem start88_yes : startYes Tryd.prog (tabGlob tabs) lawEv 2130220 lawBody lawFn 17 100000 places88 exc88 (psV lawPs 0) (stTab tabs lawPc88) = true := by kernel_rfl
theorem places88_yes : ∀ p ∈ places88, placeYes Tryd.prog (tabGlob tabs) lawEv 2130220 lawBody lawFn 17 100000 places88 exc88 p = true :=
  (fun p h => by cases h)
theorem places88_paths : ∀ p ∈ places88, pathsOk p.stk :=
  (fun p h => by cases h)
theorem exc88_no : ∀ q ∈ exc88, ∀ i, ¬ Holds i q := by intro q hq; cases hq
def places104 : List Sx.Place := []
def lawPc104 : Pc := [((.eq (.var 4 (.negSucc 9223372036854775807) 9223372036854775807) (.lit 0)), true), ((.lt (.var 4 (.negSucc 9223372036854775807) 9223372036854775807) (.lit 0)), false), ((.eq (.var 0 0 255) (.lit 56)), true), ((.eq (.var 0 0 255) (.lit 55)), false), ((.eq (.var 0 0 255) (.lit 54)), false), ((.lt (.var 0 0 255) (.lit 60)), true), ((.lt (.var 0 0 255) (.lit 54)), false), ((.lt (.var 0 0 255) (.lit 48)), false), ((.lt (.var 0 0 255) (.lit 42)), false), ((.lt (.var 0 0 255) (.lit 36)), false), ((.lt (.var 0 0 255) (.lit 30)), false), ((.lt (.var 0 0 255) (.lit 24)), false), ((.lt (.var 0 0 255) (.lit 18)), false), ((.lt (.var 0 0 255) (.lit 12)), false), ((.lt (.var 0 0 255) (.lit 6)), false)]
def exc104 : List Pc := []
theorem start104_yes : startYes Tryd.prog (tabGlob tabs) lawEv 2130220 lawBody lawFn 17 100000 places104 exc104 (psV lawPs 0) (stTab tabs lawPc104) = true := by kernel_rfl
theorem places104_yes : ∀ p ∈ places104, placeYes Tryd.prog (tabGlob tabs) lawEv 2130220 lawBody lawFn 17 100000 places104 exc104 p = true :=
  (fun p h => by cases h)
theorem places104_paths : ∀ p ∈ places104, pathsOk p.stk :=
  (fun p h => by cases h)
theorem exc104_no : ∀ q ∈ exc104, ∀ i, ¬ Holds i q := by intro q hq; cases hq
def places120 : List Sx.Place := []
def lawPc120 : Pc := [((.eq (.var 4 (.negSucc 9223372036854775807) 9223372036854775807) (.lit 0)), false), ((.lt (.var 4 (.negSucc 9223372036854775807) 9223372036854775807) (.lit 0)), false), ((.eq (.var 0 0 255) (.lit 61)), true), ((.eq (.var 0 0 255) (.lit 60)), false), ((.lt (.var 0 0 255) (.lit 66)), true), ((.lt (.var 0 0 255) (.lit 60)), false), ((.lt (.var 0 0 255) (.lit 54)), false), ((.lt (.var 0 0 255) (.lit 48)), false), ((.lt (.var 0 0 255) (.lit 42)), false), ((.lt (.var 0 0 255) (.lit 36)), false), ((.lt (.var 0 0 255) (.lit 30)), false), ((.lt (.var 0 0 255) (.lit 24)), false), ((.lt (.var 0 0 255) (.lit 18)), false), ((.lt (.var 0 0 255) (.lit 12)), false), ((.lt (.var 0 0 255) (.lit 6)), false)]
def exc120 : List Pc := []
theorem start120_yes : startYes Tryd.prog (tabGlob tabs) lawEv 2130220 lawBody lawFn 17 100000 places120 exc120 (psV lawPs 0) (stTab tabs lawPc120) = true := by kernel_rfl
theorem places120_yes : ∀ p ∈ places120, placeYes Tryd.prog (tabGlob tabs) lawEv 2130220 lawBody lawFn 17 100000 places120 exc120 p = true :=
  (fun p h => by cases h)
theorem places120_paths : ∀ p ∈ places120, pathsOk p.stk :=
  (fun p h => by cases h)
theorem exc120_no : ∀ q ∈ exc120, ∀ i, ¬ Holds i q := by intro q hq; cases hq
def places136 : List Sx.Place := []
def lawPc136 : Pc := [((.lt (.var 4 (.negSucc 9223372036854775807) 9223372036854775807) (.lit 0)), true), ((.eq (.var 0 0 255) (.lit 67)), true), ((.eq (.var 0 0 255) (.lit 66)), false), ((.lt (.var 0 0 255) (.lit 72)), true), ((.lt (.var 0 0 255) (.lit 66)), false), ((.lt (.var 0 0 255) (.lit 60)), false), ((.lt (.var 0 0 255) (.lit 54)), false), ((.lt (.var 0 0 255) (.lit 48)), false), ((.lt (.var 0 0 255) (.lit 42)), false), ((.lt (.var 0 0 255) (.lit 36)), false), ((.lt (.var 0 0 255) (.lit 30)), false), ((.lt (.var 0 0 255) (.lit 24)), false), ((.lt (.var 0 0 255) (.lit 18)), false), ((.lt (.var 0 0 255) (.lit 12)), false), ((.lt (.var 0 0 255) (.lit 6)), false)]
def exc136 : List Pc := []
theorem start136_yes : startYes Tryd.prog (tabGlob tabs) lawEv 2130220 lawBody lawFn 17 100000 places136 exc136 (psV lawPs 0) (stTab tabs lawPc136) = true := by kernel_rfl
theorem places136_yes : ∀ p ∈ places136, placeYes Tryd.prog (tabGlob tabs) lawEv 2130220 lawBody lawFn 17 100000 places136 exc136 p = true :=
  (fun p h => by cases h)
theorem places136_paths : ∀ p ∈ places136, pathsOk p.stk :=
  (fun p h => by cases h)
theorem exc136_no : ∀ q ∈ exc136, ∀ i, ¬ Holds i q := by intro q hq; cases hq
def places152 : List Sx.Place := []
def lawPc152 : Pc := [((.eq (.var 4 (.negSucc 9223372036854775807) 9223372036854775807) (.lit 0)), true), ((.lt (.var 4 (.negSucc 9223372036854775807) 9223372036854775807) (.lit 0)), false), ((.eq (.var 0 0 255) (.lit 72)), true), ((.lt (.var 0 0 255) (.lit 78)), true), ((.lt (.var 0 0 255) (.lit 72)), false), ((.lt (.var 0 0 255) (.lit 66)), false), ((.lt (.var 0 0 255) (.lit 60)), false), ((.lt (.var 0 0 255) (.lit 54)), false), ((.lt (.var 0 0 255) (.lit 48)), false), ((.lt (.var 0 0 255) (.lit 42)), false), ((.lt (.var 0 0 255) (.lit 36)), false), ((.lt (.var 0 0 255) (.lit 30)), false), ((.lt (.var 0 0 255) (.lit 24)), false), ((.lt (.var 0 0 255) (.lit 18)), false), ((.lt (.var 0 0 255) (.lit 12)), false), ((.lt (.var 0 0 255) (.lit 6)), false)]
def exc152 : List Pc := []
theorem start152_yes : startYes Tryd.prog (tabGlob tabs) lawEv 2130220 lawBody lawFn 17 100000 places152 exc152 (psV lawPs 0) (stTab tabs lawPc152) = true := by kernel_rfl
theorem places152_yes : ∀ p ∈ places152, placeYes Tryd.prog (tabGlob tabs) lawEv 2130220 lawBody lawFn 17 100000 places152 exc152 p = true :=
  (fun p h => by cases h)
theorem places152_paths : ∀ p ∈ places152, pathsOk p.stk :=
  (fun p h => by cases h)
theorem exc152_no : ∀ q ∈ exc152, ∀ i, ¬ Holds i q := by intro q hq; cases hq
def places168 : List Sx.Place := []
def lawPc168 : Pc := [((.eq (.var 4 (.negSucc 9223372036854775807) 9223372036854775807) (.lit 0)), false), ((.lt (.var 4 (.negSucc 9223372036854775807) 9223372036854775807) (.lit 0)), false), ((.eq (.var 0 0 255) (.lit 76)), false), ((.eq (.var 0 0 255) (.lit 75)), false), ((.eq (.var 0 0 255) (.lit 74)), false), ((.eq (.var 0 0 255) (.lit 73)), false), ((.eq (.var 0 0 255) (.lit 72)), false), ((.lt (.var 0 0 255) (.lit 78)), true), ((.lt (.var 0 0 255) (.lit 72)), false), ((.lt (.var 0 0 255) (.lit 66)), false), ((.lt (.var 0 0 255) (.lit 60)), false), ((.lt (.var 0 0 255) (.lit 54)), false), ((.lt (.var 0 0 255) (.lit 48)), false), ((.lt (.var 0 0 255) (.lit 42)), false), ((.lt (.var 0 0 255) (.lit 36)), false), ((.lt (.var 0 0 255) (.lit 30)), false), ((.lt (.var 0 0 255) (.lit 24)), false), ((.lt (.var 0 0 255) (.lit 18)), false), ((.lt (.var 0 0 255) (.lit 12)), false), ((.lt (.var 0 0 255) (.lit 6)), false)]
def exc168 : List Pc := []
theorem start168_yes : startYes Tryd.prog (tabGlob tabs) lawEv 2130220 lawBody lawFn 17 100000 places168 exc168 (psV lawPs 0) (stTab tabs lawPc168) = true := by kernel_rfl
theorem places168_yes : ∀ p ∈ places168, placeYes Tryd.prog (tabGlob tabs) lawEv 2130220 lawBody lawFn 17 100000 places168 exc168 p = true :=
  (fun p h => by cases h)
theorem places168_paths : ∀ p ∈ places168, pathsOk p.stk :=
  (fun p h => by cases h)
theorem exc168_no : ∀ q ∈ exc168, ∀ i, ¬ Holds i q := by intro q hq; cases hq
def places184 : List Sx.Place := []
def lawPc184 : Pc := [((.lt (.var 4 (.negSucc 9223372036854775807) 9223372036854775807) (.lit 0)), true), ((.eq (.var 0 0 255) (.lit 82)), false), ((.eq (.var 0 0 255) (.lit 81)), false), ((.eq (.var 0 0 255) (.lit 80)), false), ((.eq (.var 0 0 255) (.lit 79)), false), ((.eq (.var 0 0 255) (.lit 78)), false), ((.lt (.var 0 0 255) (.lit 84)), true), ((.lt (.var 0 0 255) (.lit 78)), false), ((.lt (.var 0 0 255) (.lit 72)), false), ((.lt (.var 0 0 255) (.lit 66)), false), ((.lt (.var 0 0 255) (.lit 60)), false), ((.lt (.var 0 0 255) (.lit 54)), false), ((.lt (.var 0 0 255) (.lit 48)), false), ((.lt (.var 0 0 255) (.lit 42)), false), ((.lt (.var 0 0 255) (.lit 36)), false), ((.lt (.var 0 0 255) (.lit 30)), false), ((.lt (.var 0 0 255) (.lit 24)), false), ((.lt (.var 0 0 255) (.lit 18)), false), ((.lt (.var 0 0 255) (.lit 12)), false), ((.lt (.var 0 0 255) (.lit 6)), false)]
def exc184 : List Pc := []
theorem start184_yes : startYes Tryd.prog (tabGlob tabs) lawEv 2130220 lawBody lawFn 17 100000 places184 exc184 (psV lawPs 0) (stTab tabs lawPc184) = true := by kernel_rfl
theorem places184_yes : ∀ p ∈ places184, placeYes Tryd.prog (tabGlob tabs) lawEv 2130220 lawBody lawFn 17 100000 places184 exc184 p = true :=
  (fun p h => by cases h)
theorem places184_paths : ∀ p ∈ places184, pathsOk p.stk :=
  (fun p h => by cases h)
theorem exc184_no : ∀ q ∈ exc184, ∀ i, ¬ Holds i q := by intro q hq; cases hq
def places200 : List Sx.Place := []
def lawPc200 : Pc := [((.eq (.var 4 (.negSucc 9223372036854775807) 9223372036854775807) (.lit 0)), true), ((.lt (.var 4 (.negSucc 9223372036854775807) 9223372036854775807) (.lit 0)), false), ((.eq (.var 0 0 255) (.lit 88)), true), ((.eq (.var 0 0 255) (.lit 87)), false), ((.eq (.var 0 0 255) (.lit 86)), false), ((.eq (.var 0 0 255) (.lit 85)), false), ((.eq (.var 0 0 255) (.lit 84)), false), ((.lt (.var 0 0 255) (.lit 90)), true), ((.lt (.var 0 0 255) (.lit 84)), false), ((.lt (.var 0 0 255) (.lit 78)), false), ((.lt (.var 0 0 255) (.lit 72)), false), ((.lt (.var 0 0 255) (.lit 66)), false), ((.lt (.var 0 0 255) (.lit 60)), false), ((.lt (.var 0 0 255) (.lit 54)), false), ((.lt (.var 0 0 255) (.lit 48)), false), ((.lt (.var 0 0 255) (.lit 42)), false), ((.lt (.var 0 0 255) (.lit 36)), false), ((.lt (.var 0 0 255) (.lit 30)), false), ((.lt (.var 0 0 255) (.lit 24)), false), ((.lt (.var 0 0 255) (.lit 18)), false), ((.lt (.var 0 0 255) (.lit 12)), false), ((.lt (.var 0 0 255) (.lit 6)), false)]
def exc200 : List Pc := []
theorem start200_yes : startYes Tryd.prog (tabGlob tabs) lawEv 2130220 lawBody lawFn 17 100000 places200 exc200 (psV lawPs 0) (stTab tabs lawPc200) = true := by kernel_rfl
theorem places200_yes : ∀ p ∈ places200, placeYes Tryd.prog (tabGlob tabs) lawEv 2130220 lawBody lawFn 17 100000 places200 exc200 p = true :=
  (fun p h => by cases h)
theorem places200_paths : ∀ p ∈ places200, pathsOk p.stk :=
  (fun p h => by cases h)
theorem exc200_no : ∀ q ∈ exc200, ∀ i, ¬ Holds i q := by intro q hq; cases hq
def places216 : List Sx.Place := []
def lawPc216 : Pc := [((.eq (.var 4 (.negSucc 9223372036854775807) 9223372036854775807) (.lit 0)), false), ((.lt (.var 4 (.negSucc 9223372036854775807) 9223372036854775807) (.lit 0)), false), ((.eq (.var 0 0 255) (.lit 94)), false), ((.eq (.var 0 0 255) (.lit 93)), false), ((.eq (.var 0 0 255) (.lit 92)), false), ((.eq (.var 0 0 255) (.lit 91)), false), ((.eq (.var 0 0 255) (.lit 90)), false), ((.lt (.var 0 0 255) (.lit 96)), true), ((.lt (.var 0 0 255) (.lit 90)), false), ((.lt (.var 0 0 255) (.lit 84)), false), ((.lt (.var 0 0 255) (.lit 78)), false), ((.lt (.var 0 0 255) (.lit 72)), false), ((.lt (.var 0 0 255) (.lit 66)), false), ((.lt (.var 0 0 255) (.lit 60)), false), ((.lt (.var 0 0 255) (.lit 54)), false), ((.lt (.var 0 0 255) (.lit 48)), false), ((.lt (.var 0 0 255) (.lit 42)), false), ((.lt (.var 0 0 255) (.lit 36)), false), ((.lt (.var 0 0 255) (.lit 30)), false), ((.lt (.var 0 0 255) (.lit 24)), false), ((.lt (.var 0 0 255) (.lit 18)), false), ((.lt (.var 0 0 255) (.lit 12)), false), ((.lt (.var 0 0 255) (.lit 6)), false)]
def exc216 : List Pc := []
theorem start216_yes : startYes Tryd.prog (tabGlob tabs) lawEv 2130220 lawBody lawFn 17 100000 places216 exc216 (psV lawPs 0) (stTab tabs lawPc216) = true := by kernel_rfl
theorem places216_yes : ∀ p ∈ places216, placeYes Tryd.prog (tabGlob tabs) lawEv 2130220 lawBody lawFn 17 100000 places216 exc216 p = true :=
  (fun p h => by cases h)
theorem places216_paths : ∀ p ∈ places216, pathsOk p.stk :=
  (fun p h => by cases h)
theorem exc216_no : ∀ q ∈ exc216, ∀ i, ¬ Holds i q := by intro q hq; cases hq
end
end Go.Proofs.YtjlfojjkdeflpaaDoor.Sx
