/- InstChecks: a part of its cases. -/
import Derived.Test.YtjlfojjkdeflpaaDoorUInstChecks
set_option linter.unusedVariables false
set_option linter.unusedSimpArgs false
namespace Go.Proofs.YtjlfojjkdeflpaaDoor.Sx
open Go
noncomputable section
set_option maxRecDepth 100000
def places4 : List Sx.Place := []
def lawPc4 : Pc := [((.eq (.var 0 0 255) (.lit 4)), true), ((.eq (.var 0 0 255) (.lit 3)), false), ((.eq (.var 0 0 255) (.lit 2)), false), ((.eq (.var 0 0 255) (.lit 1)), false), ((.eq (.var 0 0 255) (.lit 0)), false), ((.lt (.var 0 0 255) (.lit 6)), true)]
def exc4 : List Pc := []
theorem start4_yes : startYes Tryd.prog (tabGlob tabs) lawEv 2130220 lawBody lawFn 17 100000 places4 exc4 (psV lawPs 0) (stTab tabs lawPc4) = true := by kernel_rfl
theorem places4_yes : ∀ p ∈ places4, placeYes Tryd.prog (tabGlob tabs) lawEv 2130220 lawBody lawFn 17 100000 places4 exc4 p = true :=
  (fun p h => by cases h)
theorem places4_paths : ∀ p ∈ places4, pathsOk p.stk :=
  (fun p h => by cases h)
theorem exc4_no : ∀ q ∈ exc4, ∀ i, ¬ Holds i q := by intro q hq; cases hq
def places20 : List Sx.Place := []
def lawPc20 : Pc := [((.eq (.var 0 0 255) (.lit 19)), true), ((.eq (.var 0 0 255) (.lit 18)), false), ((.lt (.var 0 0 255) (.lit 24)), true), ((.lt (.var 0 0 255) (.lit 18)), false), ((.lt (.var 0 0 255) (.lit 12)), false), ((.lt (.var 0 0 255) (.lit 6)), false)]
def exc20 : List Pc := []
theorem start20_yes : startYes Tryd.prog (tabGlob tabs) lawEv 2130220 lawBody lawFn 17 100000 places20 exc20 (psV lawPs 0) (stTab tabs lawPc20) = true := by kernel_rfl
theorem places20_yes : ∀ p ∈ places20, placeYes Tryd.prog (tabGlob tabs) lawEv 2130220 lawBody lawFn 17 100000 places20 exc20 p = true :=
  (fun p h => by cases h)
theorem places20_paths : ∀ p ∈ places20, pathsOk p.stk :=
  (fun p h => by cases h)
theorem exc20_no : ∀ q ∈ exc20, ∀ i, ¬ Holds i q := by intro q hq; cases hq
def places36 : List Sx.Place := []
def lawPc36 : Pc := [((.eq (.ar .and .u32 (.ar .or .u32 (.ar .or .u32 (.ar .or .u32 (.lit 51) (.ar .shl .u32 (.var 1 0 255) (.lit 7))) (.ar .shl .u32 (.var 2 0 255) (.lit 15))) (.ar .shl .u32 (.var 3 0 255) (.lit 20))) (.lit 4261441663)) (.lit 51)), true), ((.lt (.var 1 0 255) (.lit 32)), true), ((.eq (.var 4 (.negSucc 9223372036854775807) 9223372036854775807) (.lit 0)), true), ((.lt (.var 4 (.negSucc 9223372036854775807) 9223372036854775807) (.lit 0)), false), ((.eq (.var 0 0 255) (.lit 31)), true), ((.eq (.var 0 0 255) (.lit 30)), false), ((.lt (.var 0 0 255) (.lit 36)), true), ((.lt (.var 0 0 255) (.lit 30)), false), ((.lt (.var 0 0 255) (.lit 24)), false), ((.lt (.var 0 0 255) (.lit 18)), false), ((.lt (.var 0 0 255) (.lit 12)), false), ((.lt (.var 0 0 255) (.lit 6)), false)]
def exc36 : List Pc := []
theorem start36_yes : startYes Tryd.prog (tabGlob tabs) lawEv 2130220 lawBody lawFn 17 100000 places36 exc36 (psV lawPs 0) (stTab tabs lawPc36) = true := by kernel_rfl
theorem places36_yes : ∀ p ∈ places36, placeYes Tryd.prog (tabGlob tabs) lawEv 2130220 lawBody lawFn 17 100000 places36 exc36 p = true :=
  (fun p h => by cases h)
theorem places36_paths : ∀ p ∈ places36, pathsOk p.stk :=
  (fun p h => by cases h)
theorem exc36_no : ∀ q ∈ exc36, ∀ i, ¬ Holds i q := by intro q hq; cases hq
def places52 : List Sx.Place := []
def lawPc52 : Pc := [((.eq (.var 4 (.negSucc 9223372036854775807) 9223372036854775807) (.lit 0)), true), ((.lt (.var 4 (.negSucc 9223372036854775807) 9223372036854775807) (.lit 0)), false), ((.eq (.var 0 0 255) (.lit 36)), true), ((.lt (.var 0 0 255) (.lit 42)), true), ((.lt (.var 0 0 255) (.lit 36)), false), ((.lt (.var 0 0 255) (.lit 30)), false), ((.lt (.var 0 0 255) (.lit 24)), false), ((.lt (.var 0 0 255) (.lit 18)), false), ((.lt (.var 0 0 255) (.lit 12)), false), ((.lt (.var 0 0 255) (.lit 6)), false)]
def exc52 : List Pc := []
theorem start52_yes : startYes Tryd.prog (tabGlob tabs) lawEv 2130220 lawBody lawFn 17 100000 places52 exc52 (psV lawPs 0) (stTab tabs lawPc52) = true := by kernel_rfl
theorem places52_yes : ∀ p ∈ places52, placeYes Tryd.prog (tabGlob tabs) lawEv 2130220 lawBody lawFn 17 100000 places52 exc52 p = true :=
  (fun p h => by cases h)
theorem places52_paths : ∀ p ∈ places52, pathsOk p.stk :=
  (fun p h => by cases h)
theorem exc52_no : ∀ q ∈ exc52, ∀ i, ¬ Holds i q := by intro q hq; cases hq
def places68 : List Sx.Place := []
def lawPc68 : Pc := [((.eq (.var 0 0 255) (.lit 43)), true), ((.eq (.var 0 0 255) (.lit 42)), false), ((.lt (.var 0 0 255) (.lit 48)), true), ((.lt (.var 0 0 255) (.lit 42)), false), ((.lt (.var 0 0 255) (.lit 36)), false), ((.lt (.var 0 0 255) (.lit 30)), false), ((.lt (.var 0 0 255) (.lit 24)), false), ((.lt (.var 0 0 255) (.lit 18)), false), ((.lt (.var 0 0 255) (.lit 12)), false), ((.lt (.var 0 0 255) (.lit 6)), false)]
def exc68 : List Pc := []
theorem start68_yes : startYes Tryd.prog (tabGlob tabs) lawEv 2130220 lawBody lawFn 17 100000 places68 exc68 (psV lawPs 0) (stTab tabs lawPc68) = true := by kernel_rfl
theorem places68_yes : ∀ p ∈ places68, placeYes Tryd.prog (tabGlob tabs) lawEv 2130220 lawBody lawFn 17 100000 places68 exc68 p = true :=
  (fun p h => by cases h)
theorem places68_paths : ∀ p ∈ places68, pathsOk p.stk :=
  (fun p h => by cases h)
theorem exc68_no : ∀ q ∈ exc68, ∀ i, ¬ Holds i q := by intro q hq; cases hq
def places84 : List Sx.Place := []
def lawPc84 : Pc := [((.eq (.var 4 (.negSucc 9223372036854775807) 9223372036854775807) (.lit 0)), false), ((.lt (.var 4 (.negSucc 9223372036854775807) 9223372036854775807) (.lit 0)), false), ((.eq (.var 0 0 255) (.lit 49)), true), ((.eq (.var 0 0 255) (.lit 48)), false), ((.lt (.var 0 0 255) (.lit 54)), true), ((.lt (.var 0 0 255) (.lit 48)), false), ((.lt (.var 0 0 255) (.lit 42)), false), ((.lt (.var 0 0 255) (.lit 36)), false), ((.lt (.var 0 0 255) (.lit 30)), false), ((.lt (.var 0 0 255) (.lit 24)), false), ((.lt (.var 0 0 255) (.lit 18)), false), ((.lt (.var 0 0 255) (.lit 12)), false), ((.lt (.var 0 0 255) (.lit 6)), false)]
def exc84 : List Pc := []
theorem start84_yes : startYes Tryd.prog (tabGlob tabs) lawEv 2130220 lawBody lawFn 17 100000 places84 exc84 (psV lawPs 0) (stTab tabs lawPc84) = true := by kernel_rfl
theorem places84_yes : ∀ p ∈ places84, placeYes Tryd.prog (tabGlob tabs) lawEv 2130220 lawBody lawFn 17 100000 places84 exc84 p = true :=
  (fun p h => by cases h)
theorem places84_paths : ∀ p ∈ places84, pathsOk p.stk :=
  (fun p h => by cases h)
theorem exc84_no : ∀ q ∈ exc84, ∀ i, ¬ Holds i q := by intro q hq; cases hq
def places100 : List Sx.Place := []
def lawPc100 : Pc := [((.lt (.var 4 (.negSucc 9223372036854775807) 9223372036854775807) (.lit 0)), true), ((.eq (.var 0 0 255) (.lit 55)), true), ((.eq (.var 0 0 255) (.lit 54)), false), ((.lt (.var 0 0 255) (.lit 60)), true), ((.lt (.var 0 0 255) (.lit 54)), false), ((.lt (.var 0 0 255) (.lit 48)), false), ((.lt (.var 0 0 255) (.lit 42)), false), ((.lt (.var 0 0 255) (.lit 36)), false), ((.lt (.var 0 0 255) (.lit 30)), false), ((.lt (.var 0 0 255) (.lit 24)), false), ((.lt (.var 0 0 255) (.lit 18)), false), ((.lt (.var 0 0 255) (.lit 12)), false), ((.lt (.var 0 0 255) (.lit 6)), false)]
def exc100 : List Pc := []
theorem start100_yes : startYes Tryd.prog (tabGlob tabs) lawEv 2130220 lawBody lawFn 17 100000 places100 exc100 (psV lawPs 0) (stTab tabs lawPc100) = true := by kernel_rfl
theorem places100_yes : ∀ p ∈ places100, placeYes Tryd.prog (tabGlob tabs) lawEv 2130220 lawBody lawFn 17 100000 places100 exc100 p = true :=
  (fun p h => by cases h)
theorem places100_paths : ∀ p ∈ places100, pathsOk p.stk :=
  (fun p h => by cases h)
theorem exc100_no : ∀ q ∈ exc100, ∀ i, ¬ Holds i q := by intro q hq; cases hq
def places116 : List Sx.Place := []
def lawPc116 : Pc := [((.eq (.var 4 (.negSucc 9223372036854775807) 9223372036854775807) (.lit 0)), true), ((.lt (.var 4 (.negSucc 9223372036854775807) 9223372036854775807) (.lit 0)), false), ((.eq (.var 0 0 255) (.lit 60)), true), ((.lt (.var 0 0 255) (.lit 66)), true), ((.lt (.var 0 0 255) (.lit 60)), false), ((.lt (.var 0 0 255) (.lit 54)), false), ((.lt (.var 0 0 255) (.lit 48)), false), ((.lt (.var 0 0 255) (.lit 42)), false), ((.lt (.var 0 0 255) (.lit 36)), false), ((.lt (.var 0 0 255) (.lit 30)), false), ((.lt (.var 0 0 255) (.lit 24)), false), ((.lt (.var 0 0 255) (.lit 18)), false), ((.lt (.var 0 0 255) (.lit 12)), false), ((.lt (.var 0 0 255) (.lit 6)), false)]
def exc116 : List Pc := []
theorem start116_yes : startYes Tryd.prog (tabGlob tabs) lawEv 2130220 lawBody lawFn 17 100000 places116 exc116 (psV lawPs 0) (stTab tabs lawPc116) = true := by kernel_rfl
theorem places116_yes : ∀ p ∈ places116, placeYes Tryd.prog (tabGlob tabs) lawEv 2130220 lawBody lawFn 17 100000 places116 exc116 p = true :=
  (fun p h => by cases h)
theorem places116_paths : ∀ p ∈ places116, pathsOk p.stk :=
  (fun p h => by cases h)
theorem exc116_no : ∀ q ∈ exc116, ∀ i, ¬ Holds i q := by intro q hq; cases hq
def places132 : List Sx.Place := []
def lawPc132 : Pc := [((.eq (.var 4 (.negSucc 9223372036854775807) 9223372036854775807) (.lit 0)), false), ((.lt (.var 4 (.negSucc 9223372036854775807) 9223372036854775807) (.lit 0)), false), ((.eq (.var 0 0 255) (.lit 64)), false), ((.eq (.var 0 0 255) (.lit 63)), false), ((.eq (.var 0 0 255) (.lit 62)), false), ((.eq (.var 0 0 255) (.lit 61)), false), ((.eq (.var 0 0 255) (.lit 60)), false), ((.lt (.var 0 0 255) (.lit 66)), true), ((.lt (.var 0 0 255) (.lit 60)), false), ((.lt (.var 0 0 255) (.lit 54)), false), ((.lt (.var 0 0 255) (.lit 48)), false), ((.lt (.var 0 0 255) (.lit 42)), false), ((.lt (.var 0 0 255) (.lit 36)), false), ((.lt (.var 0 0 255) (.lit 30)), false), ((.lt (.var 0 0 255) (.lit 24)), false), ((.lt (.var 0 0 255) (.lit 18)), false), ((.lt (.var 0 0 255) (.lit 12)), false), ((.lt (.var 0 0 255) (.lit 6)), false)]
def exc132 : List Pc := []
theorem start132_yes : startYes Tryd.prog (tabGlob tabs) lawEv 2130220 lawBody lawFn 17 100000 places132 exc132 (psV lawPs 0) (stTab tabs lawPc132) = true := by kernel_rfl
theorem places132_yes : ∀ p ∈ places132, placeYes Tryd.prog (tabGlob tabs) lawEv 2130220 lawBody lawFn 17 100000 places132 exc132 p = true :=
  (fun p h => by cases h)
theorem places132_paths : ∀ p ∈ places132, pathsOk p.stk :=
  (fun p h => by cases h)
theorem exc132_no : ∀ q ∈ exc132, ∀ i, ¬ Holds i q := by intro q hq; cases hq
def places148 : List Sx.Place := []
def lawPc148 : Pc := [((.lt (.var 4 (.negSucc 9223372036854775807) 9223372036854775807) (.lit 0)), true), ((.eq (.var 0 0 255) (.lit 70)), false), ((.eq (.var 0 0 255) (.lit 69)), false), ((.eq (.var 0 0 255) (.lit 68)), false), ((.eq (.var 0 0 255) (.lit 67)), false), ((.eq (.var 0 0 255) (.lit 66)), false), ((.lt (.var 0 0 255) (.lit 72)), true), ((.lt (.var 0 0 255) (.lit 66)), false), ((.lt (.var 0 0 255) (.lit 60)), false), ((.lt (.var 0 0 255) (.lit 54)), false), ((.lt (.var 0 0 255) (.lit 48)), false), ((.lt (.var 0 0 255) (.lit 42)), false), ((.lt (.var 0 0 255) (.lit 36)), false), ((.lt (.var 0 0 255) (.lit 30)), false), ((.lt (.var 0 0 255) (.lit 24)), false), ((.lt (.var 0 0 255) (.lit 18)), false), ((.lt (.var 0 0 255) (.lit 12)), false), ((.lt (.var 0 0 255) (.lit 6)), false)]
def exc148 : List Pc := []
theorem start148_yes : startYes Tryd.prog (tabGlob tabs) lawEv 2130220 lawBody lawFn 17 100000 places148 exc148 (psV lawPs 0) (stTab tabs lawPc148) = true := by kernel_rfl
theorem places148_yes : ∀ p ∈ places148, placeYes Tryd.prog (tabGlob tabs) lawEv 2130220 lawBody lawFn 17 100000 places148 exc148 p = true :=
  (fun p h => by cases h)
theorem places148_paths : ∀ p ∈ places148, pathsOk p.stk :=
  (fun p h => by cases h)
theorem exc148_no : ∀ q ∈ exc148, ∀ i, ¬ Holds i q := by intro q hq; cases hq
def places164 : List Sx.Place := []
def lawPc164 : Pc := [((.eq (.var 4 (.negSucc 9223372036854775807) 9223372036854775807) (.lit 0)), true), ((.lt (.var 4 (.negSucc 9223372036854775807) 9223372036854775807) (.lit 0)), false), ((.eq (.var 0 0 255) (.lit 76)), true), ((.eq (.var 0 0 255) (.lit 75)), false), ((.eq (.var 0 0 255) (.lit 74)), false), ((.eq (.var 0 0 255) (.lit 73)), false), ((.eq (.var 0 0 255) (.lit 72)), false), ((.lt (.var 0 0 255) (.lit 78)), true), ((.lt (.var 0 0 255) (.lit 72)), false), ((.lt (.var 0 0 255) (.lit 66)), false), ((.lt (.var 0 0 255) (.lit 60)), false), ((.lt (.var 0 0 255) (.lit 54)), false), ((.lt (.var 0 0 255) (.lit 48)), false), ((.lt (.var 0 0 255) (.lit 42)), false), ((.lt (.var 0 0 255) (.lit 36)), false), ((.lt (.var 0 0 255) (.lit 30)), false), ((.lt (.var 0 0 255) (.lit 24)), false), ((.lt (.var 0 0 255) (.lit 18)), false), ((.lt (.var 0 0 255) (.lit 12)), false), ((.lt (.var 0 0 255) (.lit 6)), false)]
def exc164 : List Pc := []
theorem start164_yes : startYes Tryd.prog (tabGlob tabs) lawEv 2130220 lawBody lawFn 17 100000 places164 exc164 (psV lawPs 0) (stTab tabs lawPc164) = true := by kernel_rfl
theorem places164_yes : ∀ p ∈ places164, placeYes Tryd.prog (tabGlob tabs) lawEv 2130220 lawBody lawFn 17 100000 places164 exc164 p = true :=
  (fun p h => by cases h)
theorem places164_paths : ∀ p ∈ places164, pathsOk p.stk :=
  (fun p h => by cases h)
theorem exc164_no : ∀ q ∈ exc164, ∀ i, ¬ Holds i q := by intro q hq; cases hq
def places180 : List Sx.Place := []
def lawPc180 : Pc := [((.eq (.var 4 (.negSucc 9223372036854775807) 9223372036854775807) (.lit 0)), false), ((.lt (.var 4 (.negSucc 9223372036854775807) 9223372036854775807) (.lit 0)), false), ((.eq (.var 0 0 255) (.lit 81)), true), ((.eq (.var 0 0 255) (.lit 80)), false), ((.eq (.var 0 0 255) (.lit 79)), false), ((.eq (.var 0 0 255) (.lit 78)), false), ((.lt (.var 0 0 255) (.lit 84)), true), ((.lt (.var 0 0 255) (.lit 78)), false), ((.lt (.var 0 0 255) (.lit 72)), false), ((.lt (.var 0 0 255) (.lit 66)), false), ((.lt (.var 0 0 255) (.lit 60)), false), ((.lt (.var 0 0 255) (.lit 54)), false), ((.lt (.var 0 0 255) (.lit 48)), false), ((.lt (.var 0 0 255) (.lit 42)), false), ((.lt (.var 0 0 255) (.lit 36)), false), ((.lt (.var 0 0 255) (.lit 30)), false), ((.lt (.var 0 0 255) (.lit 24)), false), ((.lt (.var 0 0 255) (.lit 18)), false), ((.lt (.var 0 0 255) (.lit 12)), false), ((.lt (.var 0 0 255) (.lit 6)), false)]
def exc180 : List Pc := []
theorem start180_yes : startYes Tryd.prog (tabGlob tabs) lawEv 2130220 lawBody lawFn 17 100000 places180 exc180 (psV lawPs 0) (stTab tabs lawPc180) = true := by kernel_rfl
theorem places180_yes : ∀ p ∈ places180, placeYes Tryd.prog (tabGlob tabs) lawEv 2130220 lawBody lawFn 17 100000 places180 exc180 p = true :=
  (fun p h => by cases h)
theorem places180_paths : ∀ p ∈ places180, pathsOk p.stk :=
  (fun p h => by cases h)
theorem exc180_no : ∀ q ∈ exc180, ∀ i, ¬ Holds i q := by intro q hq; cases hq
def places196 : List Sx.Place := []
def lawPc196 : Pc := [((.lt (.var 4 (.negSucc 9223372036854775807) 9223372036854775807) (.lit 0)), true), ((.eq (.var 0 0 255) (.lit 87)), true), ((.eq (.var 0 0 255) (.lit 86)), false), ((.eq (.var 0 0 255) (.lit 85)), false), ((.eq (.var 0 0 255) (.lit 84)), false), ((.lt (.var 0 0 255) (.lit 90)), true), ((.lt (.var 0 0 255) (.lit 84)), false), ((.lt (.var 0 0 255) (.lit 78)), false), ((.lt (.var 0 0 255) (.lit 72)), false), ((.lt (.var 0 0 255) (.lit 66)), false), ((.lt (.var 0 0 255) (.lit 60)), false), ((.lt (.var 0 0 255) (.lit 54)), false), ((.lt (.var 0 0 255) (.lit 48)), false), ((.lt (.var 0 0 255) (.lit 42)), false), ((.lt (.var 0 0 255) (.lit 36)), false), ((.lt (.var 0 0 255) (.lit 30)), false), ((.lt (.var 0 0 255) (.lit 24)), false), ((.lt (.var 0 0 255) (.lit 18)), false), ((.lt (.var 0 0 255) (.lit 12)), false), ((.lt (.var 0 0 255) (.lit 6)), false)]
def exc196 : List Pc := []
theorem start196_yes : startYes Tryd.prog (tabGlob tabs) lawEv 2130220 lawBody lawFn 17 100000 places196 exc196 (psV lawPs 0) (stTab tabs lawPc196) = true := by kernel_rfl
theorem places196_yes : ∀ p ∈ places196, placeYes Tryd.prog (tabGlob tabs) lawEv 2130220 lawBody lawFn 17 100000 places196 exc196 p = true :=
  (fun p h => by cases h)
theorem places196_paths : ∀ p ∈ places196, pathsOk p.stk :=
  (fun p h => by cases h)
theorem exc196_no : ∀ q ∈ exc196, ∀ i, ¬ Holds i q := by intro q hq; cases hq
def places212 : List Sx.Place := []
def lawPc212 : Pc := [((.eq (.var 0 0 255) (.lit 93)), true), ((.eq (.var 0 0 255) (.lit 92)), false), ((.eq (.var 0 0 255) (.lit 91)), false), ((.eq (.var 0 0 255) (.lit 90)), false), ((.lt (.var 0 0 255) (.lit 96)), true), ((.lt (.var 0 0 255) (.lit 90)), false), ((.lt (.var 0 0 255) (.lit 84)), false), ((.lt (.var 0 0 255) (.lit 78)), false), ((.lt (.var 0 0 255) (.lit 72)), false), ((.lt (.var 0 0 255) (.lit 66)), false), ((.lt (.var 0 0 255) (.lit 60)), false), ((.lt (.var 0 0 255) (.lit 54)), false), ((.lt (.var 0 0 255) (.lit 48)), false), ((.lt (.var 0 0 255) (.lit 42)), false), ((.lt (.var 0 0 255) (.lit 36)), false), ((.lt (.var 0 0 255) (.lit 30)), false), ((.lt (.var 0 0 255) (.lit 24)), false), ((.lt (.var 0 0 255) (.lit 18)), false), ((.lt (.var 0 0 255) (.lit 12)), false), ((.lt (.var 0 0 255) (.lit 6)), false)]
def exc212 : List Pc := []
theorem start212_yes : startYes Tryd.prog (tabGlob tabs) lawEv 2130220 lawBody lawFn 17 100000 places212 exc212 (psV lawPs 0) (stTab tabs lawPc212) = true := by kernel_rfl
theorem places212_yes : ∀ p ∈ places212, placeYes Tryd.prog (tabGlob tabs) lawEv 2130220 lawBody lawFn 17 100000 places212 exc212 p = true :=
  (fun p h => by cases h)
theorem places212_paths : ∀ p ∈ places212, pathsOk p.stk :=
  (fun p h => by cases h)
theorem exc212_no : ∀ q ∈ exc212, ∀ i, ¬ Holds i q := by intro q hq; cases hq
def places228 : List Sx.Place := []
def lawPc228 : Pc := [((.eq (.var 4 (.negSucc 9223372036854775807) 9223372036854775807) (.lit 0)), false), ((.lt (.var 4 (.negSucc 9223372036854775807) 9223372036854775807) (.lit 0)), false), ((.lt (.var 0 0 255) (.lit 99)), false), ((.lt (.var 0 0 255) (.lit 96)), false), ((.lt (.var 0 0 255) (.lit 90)), false), ((.lt (.var 0 0 255) (.lit 84)), false), ((.lt (.var 0 0 255) (.lit 78)), false), ((.lt (.var 0 0 255) (.lit 72)), false), ((.lt (.var 0 0 255) (.lit 66)), false), ((.lt (.var 0 0 255) (.lit 60)), false), ((.lt (.var 0 0 255) (.lit 54)), false), ((.lt (.var 0 0 255) (.lit 48)), false), ((.lt (.var 0 0 255) (.lit 42)), false), ((.lt (.var 0 0 255) (.lit 36)), false), ((.lt (.var 0 0 255) (.lit 30)), false), ((.lt (.var 0 0 255) (.lit 24)), false), ((.lt (.var 0 0 255) (.lit 18)), false), ((.lt (.var 0 0 255) (.lit 12)), false), ((.lt (.var 0 0 255) (.lit 6)), false)]
def exc228 : List Pc := []
theorem start228_yes : startYes Tryd.prog (tabGlob tabs) lawEv 2130220 lawBody lawFn 17 100000 places228 exc228 (psV lawPs 0) (stTab tabs lawPc228) = true := by kernel_rfl
theorem places228_yes : ∀ p ∈ places228, placeYes Tryd.prog (tabGlob tabs) lawEv 2130220 lawBody lawFn 17 100000 places228 exc228 p = true :=
  (fun p h => by cases h)
theorem places228_paths : ∀ p ∈ places228, pathsOk p.stk :=
  (fun p h => by cases h)
theorem exc228_no : ∀ q ∈ exc228, ∀ i, ¬ Holds i q := by intro q hq; cases hq
end
end Go.Proofs.YtjlfojjkdeflpaaDoor.Sx
