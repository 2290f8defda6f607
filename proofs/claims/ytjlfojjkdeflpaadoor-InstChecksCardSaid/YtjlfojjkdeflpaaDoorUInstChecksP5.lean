/- InstChecks: a part of its cases. -/
import Derived.Test.YtjlfojjkdeflpaaDoorUInstChecks
set_option linter.unusedVariables false
set_option linter.unusedSimpArgs false
namespace Go.Proofs.YtjlfojjkdeflpaaDoor.Sx
open Go
noncomputable section
set_option maxRecDepth 100000
def places5 : List Sx.Place := []
def lawPc5 : Pc := [((.eq (.var 0 0 255) (.lit 5)), true), ((.eq (.var 0 0 255) (.lit 4)), false), ((.eq (.var 0 0 255) (.lit 3)), false), ((.eq (.var 0 0 255) (.lit 2)), false), ((.eq (.var 0 0 255) (.lit 1)), false), ((.eq (.var 0 0 255) (.lit 0)), false), ((.lt (.var 0 0 255) (.lit 6)), true)]
def exc5 : List Pc := []
theorem start5_yes : startYes Tryd.prog (tabGlob tabs) lawEv 2130220 lawBody lawFn 17 100000 places5 exc5 (psV lawPs 0) (stTab tabs lawPc5) = true := by kernel_rfl
theorem places5_yes : ∀ p ∈ places5, placeYes Tryd.prog (tabGlob tabs) lawEv 2130220 lawBody lawFn 17 100000 places5 exc5 p = true :=
  (fun p h => by cases h)
theorem places5_paths : ∀ p ∈ places5, pathsOk p.stk :=
  (fun p h => by cases h)
theorem exc5_no : ∀ q ∈ exc5, ∀ i, ¬ Holds i q := by intro q hq; cases hq
def places21 : List Sx.Place := []
def lawPc21 : Pc := [((.eq (.var 0 0 255) (.lit 20)), true), ((.eq (.var 0 0 255) (.lit 19)), false), ((.eq (.var 0 0 255) (.lit 18)), false), ((.lt (.var 0 0 255) (.lit 24)), true), ((.lt (.var 0 0 255) (.lit 18)), false), ((.lt (.var 0 0 255) (.lit 12)), false), ((.lt (.var 0 0 255) (.lit 6)), false)]
def exc21 : List Pc := []
theorem start21_yes : startYes Tryd.prog (tabGlob tabs) lawEv 2130220 lawBody lawFn 17 100000 places21 exc21 (psV lawPs 0) (stTab tabs lawPc21) = true := by kernel_rfl
theorem places21_yes : ∀ p ∈ places21, placeYes Tryd.prog (tabGlob tabs) lawEv 2130220 lawBody lawFn 17 100000 places21 exc21 p = true :=
  (fun p h => by cases h)
theorem places21_paths : ∀ p ∈ places21, pathsOk p.stk :=
  (fun p h => by cases h)
theorem exc21_no : ∀ q ∈ exc21, ∀ i, ¬ Holds i q := by intro q hq; cases hq
def places37 : List Sx.Place := []
def lawPc37 : Pc := [((.lt (.var 1 0 255) (.lit 32)), false), ((.eq (.var 4 (.negSucc 9223372036854775807) 9223372036854775807) (.lit 0)), true), ((.lt (.var 4 (.negSucc 9223372036854775807) 9223372036854775807) (.lit 0)), false), ((.eq (.var 0 0 255) (.lit 31)), true), ((.eq (.var 0 0 255) (.lit 30)), false), ((.lt (.var 0 0 255) (.lit 36)), true), ((.lt (.var 0 0 255) (.lit 30)), false), ((.lt (.var 0 0 255) (.lit 24)), false), ((.lt (.var 0 0 255) (.lit 18)), false), ((.lt (.var 0 0 255) (.lit 12)), false), ((.lt (.var 0 0 255) (.lit 6)), false)]
def exc37 : List Pc := []
theorem start37_yes : startYes Tryd.prog (tabGlob tabs) lawEv 2130220 lawBody lawFn 17 100000 places37 exc37 (psV lawPs 0) (stTab tabs lawPc37) = true := by kernel_rfl
theorem places37_yes : ∀ p ∈ places37, placeYes Tryd.prog (tabGlob tabs) lawEv 2130220 lawBody lawFn 17 100000 places37 exc37 p = true :=
  (fun p h => by cases h)
theorem places37_paths : ∀ p ∈ places37, pathsOk p.stk :=
  (fun p h => by cases h)
theorem exc37_no : ∀ q ∈ exc37, ∀ i, ¬ Holds i q := by intro q hq; cases hq
def places53 : List Sx.Place := []
def lawPc53 : Pc := [((.eq (.var 4 (.negSucc 9223372036854775807) 9223372036854775807) (.lit 0)), false), ((.lt (.var 4 (.negSucc 9223372036854775807) 9223372036854775807) (.lit 0)), false), ((.eq (.var 0 0 255) (.lit 36)), true), ((.lt (.var 0 0 255) (.lit 42)), true), ((.lt (.var 0 0 255) (.lit 36)), false), ((.lt (.var 0 0 255) (.lit 30)), false), ((.lt (.var 0 0 255) (.lit 24)), false), ((.lt (.var 0 0 255) (.lit 18)), false), ((.lt (.var 0 0 255) (.lit 12)), false), ((.lt (.var 0 0 255) (.lit 6)), false)]
def exc53 : List Pc := []
theorem start53_yes : startYes Tryd.prog (tabGlob tabs) lawEv 2130220 lawBody lawFn 17 100000 places53 exc53 (psV lawPs 0) (stTab tabs lawPc53) = true := by kernel_rfl
theorem places53_yes : ∀ p ∈ places53, placeYes Tryd.prog (tabGlob tabs) lawEv 2130220 lawBody lawFn 17 100000 places53 exc53 p = true :=
  (fun p h => by cases h)
theorem places53_paths : ∀ p ∈ places53, pathsOk p.stk :=
  (fun p h => by cases h)
theorem exc53_no : ∀ q ∈ exc53, ∀ i, ¬ Holds i q := by intro q hq; cases hq
def places69 : List Sx.Place := []
def lawPc69 : Pc := [((.eq (.var 0 0 255) (.lit 44)), true), ((.eq (.var 0 0 255) (.lit 43)), false), ((.eq (.var 0 0 255) (.lit 42)), false), ((.lt (.var 0 0 255) (.lit 48)), true), ((.lt (.var 0 0 255) (.lit 42)), false), ((.lt (.var 0 0 255) (.lit 36)), false), ((.lt (.var 0 0 255) (.lit 30)), false), ((.lt (.var 0 0 255) (.lit 24)), false), ((.lt (.var 0 0 255) (.lit 18)), false), ((.lt (.var 0 0 255) (.lit 12)), false), ((.lt (.var 0 0 255) (.lit 6)), false)]
def exc69 : List Pc := []
theorem start69_yes : startYes Tryd.prog (tabGlob tabs) lawEv 2130220 lawBody lawFn 17 100000 places69 exc69 (psV lawPs 0) (stTab tabs lawPc69) = true := by kernel_rfl
theorem places69_yes : ∀ p ∈ places69, placeYes Tryd.prog (tabGlob tabs) lawEv 2130220 lawBody lawFn 17 100000 places69 exc69 p = true :=
  (fun p h => by cases h)
theorem places69_paths : ∀ p ∈ places69, pathsOk p.stk :=
  (fun p h => by cases h)
theorem exc69_no : ∀ q ∈ exc69, ∀ i, ¬ Holds i q := by intro q hq; cases hq
def places85 : List Sx.Place := []
def lawPc85 : Pc := [((.lt (.var 4 (.negSucc 9223372036854775807) 9223372036854775807) (.lit 0)), true), ((.eq (.var 0 0 255) (.lit 50)), true), ((.eq (.var 0 0 255) (.lit 49)), false), ((.eq (.var 0 0 255) (.lit 48)), false), ((.lt (.var 0 0 255) (.lit 54)), true), ((.lt (.var 0 0 255) (.lit 48)), false), ((.lt (.var 0 0 255) (.lit 42)), false), ((.lt (.var 0 0 255) (.lit 36)), false), ((.lt (.var 0 0 255) (.lit 30)), false), ((.lt (.var 0 0 255) (.lit 24)), false), ((.lt (.var 0 0 255) (.lit 18)), false), ((.lt (.var 0 0 255) (.lit 12)), false), ((.lt (.var 0 0 255) (.lit 6)), false)]
def exc85 : List Pc := []
theorem start85_yes : startYes Tryd.prog (tabGlob tabs) lawEv 2130220 lawBody lawFn 17 100000 places85 exc85 (psV lawPs 0) (stTab tabs lawPc85) = true := by kernel_rfl
theorem places85_yes : ∀ p ∈ places85, placeYes Tryd.prog (tabGlob tabs) lawEv 2130220 lawBody lawFn 17 100000 places85 exc85 p = true :=
  (fun p h => by cases h)
theorem places85_paths : ∀ p ∈ places85, pathsOk p.stk :=
  (fun p h => by cases h)
theorem exc85_no : ∀ q ∈ exc85, ∀ i, ¬ Holds i q := by intro q hq; cases hq
def places101 : List Sx.Place := []
def lawPc101 : Pc := [((.eq (.var 4 (.negSucc 9223372036854775807) 9223372036854775807) (.lit 0)), true), ((.lt (.var 4 (.negSucc 9223372036854775807) 9223372036854775807) (.lit 0)), false), ((.eq (.var 0 0 255) (.lit 55)), true), ((.eq (.var 0 0 255) (.lit 54)), false), ((.lt (.var 0 0 255) (.lit 60)), true), ((.lt (.var 0 0 255) (.lit 54)), false), ((.lt (.var 0 0 255) (.lit 48)), false), ((.lt (.var 0 0 255) (.lit 42)), false), ((.lt (.var 0 0 255) (.lit 36)), false), ((.lt (.var 0 0 255) (.lit 30)), false), ((.lt (.var 0 0 255) (.lit 24)), false), ((.lt (.var 0 0 255) (.lit 18)), false), ((.lt (.var 0 0 255) (.lit 12)), false), ((.lt (.var 0 0 255) (.lit 6)), false)]
def exc101 : List Pc := []
theorem start101_yes : startYes Tryd.prog (tabGlob tabs) lawEv 2130220 lawBody lawFn 17 100000 places101 exc101 (psV lawPs 0) (stTab tabs lawPc101) = true := by kernel_rfl
theorem places101_yes : ∀ p ∈ places101, placeYes Tryd.prog (tabGlob tabs) lawEv 2130220 lawBody lawFn 17 100000 places101 exc101 p = true :=
  (fun p h => by cases h)
theorem places101_paths : ∀ p ∈ places101, pathsOk p.stk :=
  (fun p h => by cases h)
theorem exc101_no : ∀ q ∈ exc101, ∀ i, ¬ Holds i q := by intro q hq; cases hq
def places117 : List Sx.Place := []
def lawPc117 : Pc := [((.eq (.var 4 (.negSucc 9223372036854775807) 9223372036854775807) (.lit 0)), false), ((.lt (.var 4 (.negSucc 9223372036854775807) 9223372036854775807) (.lit 0)), false), ((.eq (.var 0 0 255) (.lit 60)), true), ((.lt (.var 0 0 255) (.lit 66)), true), ((.lt (.var 0 0 255) (.lit 60)), false), ((.lt (.var 0 0 255) (.lit 54)), false), ((.lt (.var 0 0 255) (.lit 48)), false), ((.lt (.var 0 0 255) (.lit 42)), false), ((.lt (.var 0 0 255) (.lit 36)), false), ((.lt (.var 0 0 255) (.lit 30)), false), ((.lt (.var 0 0 255) (.lit 24)), false), ((.lt (.var 0 0 255) (.lit 18)), false), ((.lt (.var 0 0 255) (.lit 12)), false), ((.lt (.var 0 0 255) (.lit 6)), false)]
def exc117 : List Pc := []
theorem start117_yes : startYes Tryd.prog (tabGlob tabs) lawEv 2130220 lawBody lawFn 17 100000 places117 exc117 (psV lawPs 0) (stTab tabs lawPc117) = true := by kernel_rfl
theorem places117_yes : ∀ p ∈ places117, placeYes Tryd.prog (tabGlob tabs) lawEv 2130220 lawBody lawFn 17 100000 places117 exc117 p = true :=
  (fun p h => by cases h)
theorem places117_paths : ∀ p ∈ places117, pathsOk p.stk :=
  (fun p h => by cases h)
theorem exc117_no : ∀ q ∈ exc117, ∀ i, ¬ Holds i q := by intro q hq; cases hq
def places133 : List Sx.Place := []
def lawPc133 : Pc := [((.lt (.var 4 (.negSucc 9223372036854775807) 9223372036854775807) (.lit 0)), true), ((.eq (.var 0 0 255) (.lit 66)), true), ((.lt (.var 0 0 255) (.lit 72)), true), ((.lt (.var 0 0 255) (.lit 66)), false), ((.lt (.var 0 0 255) (.lit 60)), false), ((.lt (.var 0 0 255) (.lit 54)), false), ((.lt (.var 0 0 255) (.lit 48)), false), ((.lt (.var 0 0 255) (.lit 42)), false), ((.lt (.var 0 0 255) (.lit 36)), false), ((.lt (.var 0 0 255) (.lit 30)), false), ((.lt (.var 0 0 255) (.lit 24)), false), ((.lt (.var 0 0 255) (.lit 18)), false), ((.lt (.var 0 0 255) (.lit 12)), false), ((.lt (.var 0 0 255) (.lit 6)), false)]
def exc133 : List Pc := []
theorem start133_yes : startYes Tryd.prog (tabGlob tabs) lawEv 2130220 lawBody lawFn 17 100000 places133 exc133 (psV lawPs 0) (stTab tabs lawPc133) = true := by kernel_rfl
theorem places133_yes : ∀ p ∈ places133, placeYes Tryd.prog (tabGlob tabs) lawEv 2130220 lawBody lawFn 17 100000 places133 exc133 p = true :=
  (fun p h => by cases h)
theorem places133_paths : ∀ p ∈ places133, pathsOk p.stk :=
  (fun p h => by cases h)
theorem exc133_no : ∀ q ∈ exc133, ∀ i, ¬ Holds i q := by intro q hq; cases hq
def places149 : List Sx.Place := []
def lawPc149 : Pc := [((.eq (.var 4 (.negSucc 9223372036854775807) 9223372036854775807) (.lit 0)), true), ((.lt (.var 4 (.negSucc 9223372036854775807) 9223372036854775807) (.lit 0)), false), ((.eq (.var 0 0 255) (.lit 70)), false), ((.eq (.var 0 0 255) (.lit 69)), false), ((.eq (.var 0 0 255) (.lit 68)), false), ((.eq (.var 0 0 255) (.lit 67)), false), ((.eq (.var 0 0 255) (.lit 66)), false), ((.lt (.var 0 0 255) (.lit 72)), true), ((.lt (.var 0 0 255) (.lit 66)), false), ((.lt (.var 0 0 255) (.lit 60)), false), ((.lt (.var 0 0 255) (.lit 54)), false), ((.lt (.var 0 0 255) (.lit 48)), false), ((.lt (.var 0 0 255) (.lit 42)), false), ((.lt (.var 0 0 255) (.lit 36)), false), ((.lt (.var 0 0 255) (.lit 30)), false), ((.lt (.var 0 0 255) (.lit 24)), false), ((.lt (.var 0 0 255) (.lit 18)), false), ((.lt (.var 0 0 255) (.lit 12)), false), ((.lt (.var 0 0 255) (.lit 6)), false)]
def exc149 : List Pc := []
theorem start149_yes : startYes Tryd.prog (tabGlob tabs) lawEv 2130220 lawBody lawFn 17 100000 places149 exc149 (psV lawPs 0) (stTab tabs lawPc149) = true := by kernel_rfl
theorem places149_yes : ∀ p ∈ places149, placeYes Tryd.prog (tabGlob tabs) lawEv 2130220 lawBody lawFn 17 100000 places149 exc149 p = true :=
  (fun p h => by cases h)
theorem places149_paths : ∀ p ∈ places149, pathsOk p.stk :=
  (fun p h => by cases h)
theorem exc149_no : ∀ q ∈ exc149, ∀ i, ¬ Holds i q := by intro q hq; cases hq
def places165 : List Sx.Place := []
def lawPc165 : Pc := [((.eq (.var 4 (.negSucc 9223372036854775807) 9223372036854775807) (.lit 0)), false), ((.lt (.var 4 (.negSucc 9223372036854775807) 9223372036854775807) (.lit 0)), false), ((.eq (.var 0 0 255) (.lit 76)), true), ((.eq (.var 0 0 255) (.lit 75)), false), ((.eq (.var 0 0 255) (.lit 74)), false), ((.eq (.var 0 0 255) (.lit 73)), false), ((.eq (.var 0 0 255) (.lit 72)), false), ((.lt (.var 0 0 255) (.lit 78)), true), ((.lt (.var 0 0 255) (.lit 72)), false), ((.lt (.var 0 0 255) (.lit 66)), false), ((.lt (.var 0 0 255) (.lit 60)), false), ((.lt (.var 0 0 255) (.lit 54)), false), ((.lt (.var 0 0 255) (.lit 48)), false), ((.lt (.var 0 0 255) (.lit 42)), false), ((.lt (.var 0 0 255) (.lit 36)), false), ((.lt (.var 0 0 255) (.lit 30)), false), ((.lt (.var 0 0 255) (.lit 24)), false), ((.lt (.var 0 0 255) (.lit 18)), false), ((.lt (.var 0 0 255) (.lit 12)), false), ((.lt (.var 0 0 255) (.lit 6)), false)]
def exc165 : List Pc := []
theorem start165_yes : startYes Tryd.prog (tabGlob tabs) lawEv 2130220 lawBody lawFn 17 100000 places165 exc165 (psV lawPs 0) (stTab tabs lawPc165) = true := by kernel_rfl
theorem places165_yes : ∀ p ∈ places165, placeYes Tryd.prog (tabGlob tabs) lawEv 2130220 lawBody lawFn 17 100000 places165 exc165 p = true :=
  (fun p h => by cases h)
theorem places165_paths : ∀ p ∈ places165, pathsOk p.stk :=
  (fun p h => by cases h)
theorem exc165_no : ∀ q ∈ exc165, ∀ i, ¬ Holds i q := by intro q hq; cases hq
def places181 : List Sx.Place := []
def lawPc181 : Pc := [((.lt (.var 4 (.negSucc 9223372036854775807) 9223372036854775807) (.lit 0)), true), ((.eq (.var 0 0 255) (.lit 82)), true), ((.eq (.var 0 0 255) (.lit 81)), false), ((.eq (.var 0 0 255) (.lit 80)), false), ((.eq (.var 0 0 255) (.lit 79)), false), ((.eq (.var 0 0 255) (.lit 78)), false), ((.lt (.var 0 0 255) (.lit 84)), true), ((.lt (.var 0 0 255) (.lit 78)), false), ((.lt (.var 0 0 255) (.lit 72)), false), ((.lt (.var 0 0 255) (.lit 66)), false), ((.lt (.var 0 0 255) (.lit 60)), false), ((.lt (.var 0 0 255) (.lit 54)), false), ((.lt (.var 0 0 255) (.lit 48)), false), ((.lt (.var 0 0 255) (.lit 42)), false), ((.lt (.var 0 0 255) (.lit 36)), false), ((.lt (.var 0 0 255) (.lit 30)), false), ((.lt (.var 0 0 255) (.lit 24)), false), ((.lt (.var 0 0 255) (.lit 18)), false), ((.lt (.var 0 0 255) (.lit 12)), false), ((.lt (.var 0 0 255) (.lit 6)), false)]
def exc181 : List Pc := []
theorem start181_yes : startYes Tryd.prog (tabGlob tabs) lawEv 2130220 lawBody lawFn 17 100000 places181 exc181 (psV lawPs 0) (stTab tabs lawPc181) = true := by kernel_rfl
theorem places181_yes : ∀ p ∈ places181, placeYes Tryd.prog (tabGlob tabs) lawEv 2130220 lawBody lawFn 17 100000 places181 exc181 p = true :=
  (fun p h => by cases h)
theorem places181_paths : ∀ p ∈ places181, pathsOk p.stk :=
  (fun p h => by cases h)
theorem exc181_no : ∀ q ∈ exc181, ∀ i, ¬ Holds i q := by intro q hq; cases hq
def places197 : List Sx.Place := []
def lawPc197 : Pc := [((.eq (.var 4 (.negSucc 9223372036854775807) 9223372036854775807) (.lit 0)), true), ((.lt (.var 4 (.negSucc 9223372036854775807) 9223372036854775807) (.lit 0)), false), ((.eq (.var 0 0 255) (.lit 87)), true), ((.eq (.var 0 0 255) (.lit 86)), false), ((.eq (.var 0 0 255) (.lit 85)), false), ((.eq (.var 0 0 255) (.lit 84)), false), ((.lt (.var 0 0 255) (.lit 90)), true), ((.lt (.var 0 0 255) (.lit 84)), false), ((.lt (.var 0 0 255) (.lit 78)), false), ((.lt (.var 0 0 255) (.lit 72)), false), ((.lt (.var 0 0 255) (.lit 66)), false), ((.lt (.var 0 0 255) (.lit 60)), false), ((.lt (.var 0 0 255) (.lit 54)), false), ((.lt (.var 0 0 255) (.lit 48)), false), ((.lt (.var 0 0 255) (.lit 42)), false), ((.lt (.var 0 0 255) (.lit 36)), false), ((.lt (.var 0 0 255) (.lit 30)), false), ((.lt (.var 0 0 255) (.lit 24)), false), ((.lt (.var 0 0 255) (.lit 18)), false), ((.lt (.var 0 0 255) (.lit 12)), false), ((.lt (.var 0 0 255) (.lit 6)), false)]
def exc197 : List Pc := []
theorem start197_yes : startYes Tryd.prog (tabGlob tabs) lawEv 2130220 lawBody lawFn 17 100000 places197 exc197 (psV lawPs 0) (stTab tabs lawPc197) = true := by kernel_rfl
theorem places197_yes : ∀ p ∈ places197, placeYes Tryd.prog (tabGlob tabs) lawEv 2130220 lawBody lawFn 17 100000 places197 exc197 p = true :=
  (fun p h => by cases h)
theorem places197_paths : ∀ p ∈ places197, pathsOk p.stk :=
  (fun p h => by cases h)
theorem exc197_no : ∀ q ∈ exc197, ∀ i, ¬ Holds i q := by intro q hq; cases hq
def places213 : List Sx.Place := []
def lawPc213 : Pc := [((.eq (.var 0 0 255) (.lit 94)), true), ((.eq (.var 0 0 255) (.lit 93)), false), ((.eq (.var 0 0 255) (.lit 92)), false), ((.eq (.var 0 0 255) (.lit 91)), false), ((.eq (.var 0 0 255) (.lit 90)), false), ((.lt (.var 0 0 255) (.lit 96)), true), ((.lt (.var 0 0 255) (.lit 90)), false), ((.lt (.var 0 0 255) (.lit 84)), false), ((.lt (.var 0 0 255) (.lit 78)), false), ((.lt (.var 0 0 255) (.lit 72)), false), ((.lt (.var 0 0 255) (.lit 66)), false), ((.lt (.var 0 0 255) (.lit 60)), false), ((.lt (.var 0 0 255) (.lit 54)), false), ((.lt (.var 0 0 255) (.lit 48)), false), ((.lt (.var 0 0 255) (.lit 42)), false), ((.lt (.var 0 0 255) (.lit 36)), false), ((.lt (.var 0 0 255) (.lit 30)), false), ((.lt (.var 0 0 255) (.lit 24)), false), ((.lt (.var 0 0 255) (.lit 18)), false), ((.lt (.var 0 0 255) (.lit 12)), false), ((.lt (.var 0 0 255) (.lit 6)), false)]
def exc213 : List Pc := []
theorem start213_yes : startYes Tryd.prog (tabGlob tabs) lawEv 2130220 lawBody lawFn 17 100000 places213 exc213 (psV lawPs 0) (stTab tabs lawPc213) = true := by kernel_rfl
theorem places213_yes : ∀ p ∈ places213, placeYes Tryd.prog (tabGlob tabs) lawEv 2130220 lawBody lawFn 17 100000 places213 exc213 p = true :=
  (fun p h => by cases h)
theorem places213_paths : ∀ p ∈ places213, pathsOk p.stk :=
  (fun p h => by cases h)
theorem exc213_no : ∀ q ∈ exc213, ∀ i, ¬ Holds i q := by intro q hq; cases hq
end
end Go.Proofs.YtjlfojjkdeflpaaDoor.Sx
