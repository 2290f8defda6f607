/- InstChecks: a part of its cases. -/
import Derived.Test.YtjlfojjkdeflpaaDoorUInstChecks
set_option linter.unusedVariables false
set_option linter.unusedSimpArgs false
namespace Go.Proofs.YtjlfojjkdeflpaaDoor.Sx
open Go
noncomputable section
set_option maxRecDepth 100000
def places15 : List Sx.Place := []
def lawPc15 : Pc := [((.eq (.var 0 0 255) (.lit 14)), true), ((.eq (.var 0 0 255) (.lit 13)), false), ((.eq (.var 0 0 255) (.lit 12)), false), ((.lt (.var 0 0 255) (.lit 18)), true), ((.lt (.var 0 0 255) (.lit 12)), false), ((.lt (.var 0 0 255) (.lit 6)), false)]
def exc15 : List Pc := []
theorem start15_yes : startYes Tryd.prog (tabGlob tabs) lawEv 2130220 lawBody lawFn 17 100000 places15 exc15 (psV lawPs 0) (stTab tabs lawPc15) = true := by kernel_rfl
theorem places15_yes : ∀ p ∈ places15, placeYes Tryd.prog (tabGlob tabs) lawEv 2130220 lawBody lawFn 17 100000 places15 exc15 p = true :=
  (fun p h => by cases h)
theorem places15_paths : ∀ p ∈ places15, pathsOk p.stk :=
  (fun p h => by cases h)
theorem exc15_no : ∀ q ∈ exc15, ∀ i, ¬ Holds i q := by intro q hq; cases hq
def places31 : List Sx.Place := []
def lawPc31 : Pc := [((.eq (.var 0 0 255) (.lit 27)), true), ((.eq (.var 0 0 255) (.lit 26)), false), ((.eq (.var 0 0 255) (.lit 25)), false), ((.eq (.var 0 0 255) (.lit 24)), false), ((.lt (.var 0 0 255) (.lit 30)), true), ((.lt (.var 0 0 255) (.lit 24)), false), ((.lt (.var 0 0 255) (.lit 18)), false), ((.lt (.var 0 0 255) (.lit 12)), false), ((.lt (.var 0 0 255) (.lit 6)), false)]
def exc31 : List Pc := []
theorem start31_yes : startYes Tryd.prog (tabGlob tabs) lawEv 2130220 lawBody lawFn 17 100000 places31 exc31 (psV lawPs 0) (stTab tabs lawPc31) = true := by kernel_rfl
theorem places31_yes : ∀ p ∈ places31, placeYes Tryd.prog (tabGlob tabs) lawEv 2130220 lawBody lawFn 17 100000 places31 exc31 p = true :=
  (fun p h => by cases h)
theorem places31_paths : ∀ p ∈ places31, pathsOk p.stk :=
  (fun p h => by cases h)
theorem exc31_no : ∀ q ∈ exc31, ∀ i, ¬ Holds i q := by intro q hq; cases hq
def places47 : List Sx.Place := []
def lawPc47 : Pc := [((.eq (.var 4 (.negSucc 9223372036854775807) 9223372036854775807) (.lit 0)), false), ((.lt (.var 4 (.negSucc 9223372036854775807) 9223372036854775807) (.lit 0)), false), ((.eq (.var 0 0 255) (.lit 34)), true), ((.eq (.var 0 0 255) (.lit 33)), false), ((.eq (.var 0 0 255) (.lit 32)), false), ((.eq (.var 0 0 255) (.lit 31)), false), ((.eq (.var 0 0 255) (.lit 30)), false), ((.lt (.var 0 0 255) (.lit 36)), true), ((.lt (.var 0 0 255) (.lit 30)), false), ((.lt (.var 0 0 255) (.lit 24)), false), ((.lt (.var 0 0 255) (.lit 18)), false), ((.lt (.var 0 0 255) (.lit 12)), false), ((.lt (.var 0 0 255) (.lit 6)), false)]
def exc47 : List Pc := []
theorem start47_yes : startYes Tryd.prog (tabGlob tabs) lawEv 2130220 lawBody lawFn 17 100000 places47 exc47 (psV lawPs 0) (stTab tabs lawPc47) = true := by kernel_rfl
theorem places47_yes : ∀ p ∈ places47, placeYes Tryd.prog (tabGlob tabs) lawEv 2130220 lawBody lawFn 17 100000 places47 exc47 p = true :=
  (fun p h => by cases h)
theorem places47_paths : ∀ p ∈ places47, pathsOk p.stk :=
  (fun p h => by cases h)
theorem exc47_no : ∀ q ∈ exc47, ∀ i, ¬ Holds i q := by intro q hq; cases hq
def places63 : List Sx.Place := []
def lawPc63 : Pc := [((.lt (.var 4 (.negSucc 9223372036854775807) 9223372036854775807) (.lit 0)), true), ((.eq (.var 0 0 255) (.lit 40)), true), ((.eq (.var 0 0 255) (.lit 39)), false), ((.eq (.var 0 0 255) (.lit 38)), false), ((.eq (.var 0 0 255) (.lit 37)), false), ((.eq (.var 0 0 255) (.lit 36)), false), ((.lt (.var 0 0 255) (.lit 42)), true), ((.lt (.var 0 0 255) (.lit 36)), false), ((.lt (.var 0 0 255) (.lit 30)), false), ((.lt (.var 0 0 255) (.lit 24)), false), ((.lt (.var 0 0 255) (.lit 18)), false), ((.lt (.var 0 0 255) (.lit 12)), false), ((.lt (.var 0 0 255) (.lit 6)), false)]
def exc63 : List Pc := []
theorem start63_yes : startYes Tryd.prog (tabGlob tabs) lawEv 2130220 lawBody lawFn 17 100000 places63 exc63 (psV lawPs 0) (stTab tabs lawPc63) = true := by kernel_rfl
theorem places63_yes : ∀ p ∈ places63, placeYes Tryd.prog (tabGlob tabs) lawEv 2130220 lawBody lawFn 17 100000 places63 exc63 p = true :=
  (fun p h => by cases h)
theorem places63_paths : ∀ p ∈ places63, pathsOk p.stk :=
  (fun p h => by cases h)
theorem exc63_no : ∀ q ∈ exc63, ∀ i, ¬ Holds i q := by intro q hq; cases hq
def places79 : List Sx.Place := []
def lawPc79 : Pc := [((.lt (.var 4 (.negSucc 9223372036854775807) 9223372036854775807) (.lit 0)), true), ((.eq (.var 0 0 255) (.lit 48)), true), ((.lt (.var 0 0 255) (.lit 54)), true), ((.lt (.var 0 0 255) (.lit 48)), false), ((.lt (.var 0 0 255) (.lit 42)), false), ((.lt (.var 0 0 255) (.lit 36)), false), ((.lt (.var 0 0 255) (.lit 30)), false), ((.lt (.var 0 0 255) (.lit 24)), false), ((.lt (.var 0 0 255) (.lit 18)), false), ((.lt (.var 0 0 255) (.lit 12)), false), ((.lt (.var 0 0 255) (.lit 6)), false)]
def exc79 : List Pc := []
theorem start79_yes : startYes Tryd.prog (tabGlob tabs) lawEv 2130220 lawBody lawFn 17 100000 places79 exc79 (psV lawPs 0) (stTab tabs lawPc79) = true := by kernel_rfl
theorem places79_yes : ∀ p ∈ places79, placeYes Tryd.prog (tabGlob tabs) lawEv 2130220 lawBody lawFn 17 100000 places79 exc79 p = true :=
  (fun p h => by cases h)
theorem places79_paths : ∀ p ∈ places79, pathsOk p.stk :=
  (fun p h => by cases h)
theorem exc79_no : ∀ q ∈ exc79, ∀ i, ¬ Holds i q := by intro q hq; cases hq
def places95 : List Sx.Place := []
def lawPc95 : Pc := [((.eq (.var 4 (.negSucc 9223372036854775807) 9223372036854775807) (.lit 0)), true), ((.lt (.var 4 (.negSucc 9223372036854775807) 9223372036854775807) (.lit 0)), false), ((.eq (.var 0 0 255) (.lit 52)), false), ((.eq (.var 0 0 255) (.lit 51)), false), ((.eq (.var 0 0 255) (.lit 50)), false), ((.eq (.var 0 0 255) (.lit 49)), false), ((.eq (.var 0 0 255) (.lit 48)), false), ((.lt (.var 0 0 255) (.lit 54)), true), ((.lt (.var 0 0 255) (.lit 48)), false), ((.lt (.var 0 0 255) (.lit 42)), false), ((.lt (.var 0 0 255) (.lit 36)), false), ((.lt (.var 0 0 255) (.lit 30)), false), ((.lt (.var 0 0 255) (.lit 24)), false), ((.lt (.var 0 0 255) (.lit 18)), false), ((.lt (.var 0 0 255) (.lit 12)), false), ((.lt (.var 0 0 255) (.lit 6)), false)]
def exc95 : List Pc := []
theorem start95_yes : startYes Tryd.prog (tabGlob tabs) lawEv 2130220 lawBody lawFn 17 100000 places95 exc95 (psV lawPs 0) (stTab tabs lawPc95) = true := by kernel_rfl
theorem places95_yes : ∀ p ∈ places95, placeYes Tryd.prog (tabGlob tabs) lawEv 2130220 lawBody lawFn 17 100000 places95 exc95 p = true :=
  (fun p h => by cases h)
theorem places95_paths : ∀ p ∈ places95, pathsOk p.stk :=
  (fun p h => by cases h)
theorem exc95_no : ∀ q ∈ exc95, ∀ i, ¬ Holds i q := by intro q hq; cases hq
def places111 : List Sx.Place := []
def lawPc111 : Pc := [((.eq (.var 4 (.negSucc 9223372036854775807) 9223372036854775807) (.lit 0)), false), ((.lt (.var 4 (.negSucc 9223372036854775807) 9223372036854775807) (.lit 0)), false), ((.eq (.var 0 0 255) (.lit 58)), true), ((.eq (.var 0 0 255) (.lit 57)), false), ((.eq (.var 0 0 255) (.lit 56)), false), ((.eq (.var 0 0 255) (.lit 55)), false), ((.eq (.var 0 0 255) (.lit 54)), false), ((.lt (.var 0 0 255) (.lit 60)), true), ((.lt (.var 0 0 255) (.lit 54)), false), ((.lt (.var 0 0 255) (.lit 48)), false), ((.lt (.var 0 0 255) (.lit 42)), false), ((.lt (.var 0 0 255) (.lit 36)), false), ((.lt (.var 0 0 255) (.lit 30)), false), ((.lt (.var 0 0 255) (.lit 24)), false), ((.lt (.var 0 0 255) (.lit 18)), false), ((.lt (.var 0 0 255) (.lit 12)), false), ((.lt (.var 0 0 255) (.lit 6)), false)]
def exc111 : List Pc := []
theorem start111_yes : startYes Tryd.prog (tabGlob tabs) lawEv 2130220 lawBody lawFn 17 100000 places111 exc111 (psV lawPs 0) (stTab tabs lawPc111) = true := by kernel_rfl
theorem places111_yes : ∀ p ∈ places111, placeYes Tryd.prog (tabGlob tabs) lawEv 2130220 lawBody lawFn 17 100000 places111 exc111 p = true :=
  (fun p h => by cases h)
theorem places111_paths : ∀ p ∈ places111, pathsOk p.stk :=
  (fun p h => by cases h)
theorem exc111_no : ∀ q ∈ exc111, ∀ i, ¬ Holds i q := by intro q hq; cases hq
def places127 : List Sx.Place := []
def lawPc127 : Pc := [((.lt (.var 4 (.negSucc 9223372036854775807) 9223372036854775807) (.lit 0)), true), ((.eq (.var 0 0 255) (.lit 64)), true), ((.eq (.var 0 0 255) (.lit 63)), false), ((.eq (.var 0 0 255) (.lit 62)), false), ((.eq (.var 0 0 255) (.lit 61)), false), ((.eq (.var 0 0 255) (.lit 60)), false), ((.lt (.var 0 0 255) (.lit 66)), true), ((.lt (.var 0 0 255) (.lit 60)), false), ((.lt (.var 0 0 255) (.lit 54)), false), ((.lt (.var 0 0 255) (.lit 48)), false), ((.lt (.var 0 0 255) (.lit 42)), false), ((.lt (.var 0 0 255) (.lit 36)), false), ((.lt (.var 0 0 255) (.lit 30)), false), ((.lt (.var 0 0 255) (.lit 24)), false), ((.lt (.var 0 0 255) (.lit 18)), false), ((.lt (.var 0 0 255) (.lit 12)), false), ((.lt (.var 0 0 255) (.lit 6)), false)]
def exc127 : List Pc := []
theorem start127_yes : startYes Tryd.prog (tabGlob tabs) lawEv 2130220 lawBody lawFn 17 100000 places127 exc127 (psV lawPs 0) (stTab tabs lawPc127) = true := by kernel_rfl
theorem places127_yes : ∀ p ∈ places127, placeYes Tryd.prog (tabGlob tabs) lawEv 2130220 lawBody lawFn 17 100000 places127 exc127 p = true :=
  (fun p h => by cases h)
theorem places127_paths : ∀ p ∈ places127, pathsOk p.stk :=
  (fun p h => by cases h)
theorem exc127_no : ∀ q ∈ exc127, ∀ i, ¬ Holds i q := by intro q hq; cases hq
def places143 : List Sx.Place := []
def lawPc143 : Pc := [((.eq (.var 4 (.negSucc 9223372036854775807) 9223372036854775807) (.lit 0)), true), ((.lt (.var 4 (.negSucc 9223372036854775807) 9223372036854775807) (.lit 0)), false), ((.eq (.var 0 0 255) (.lit 69)), true), ((.eq (.var 0 0 255) (.lit 68)), false), ((.eq (.var 0 0 255) (.lit 67)), false), ((.eq (.var 0 0 255) (.lit 66)), false), ((.lt (.var 0 0 255) (.lit 72)), true), ((.lt (.var 0 0 255) (.lit 66)), false), ((.lt (.var 0 0 255) (.lit 60)), false), ((.lt (.var 0 0 255) (.lit 54)), false), ((.lt (.var 0 0 255) (.lit 48)), false), ((.lt (.var 0 0 255) (.lit 42)), false), ((.lt (.var 0 0 255) (.lit 36)), false), ((.lt (.var 0 0 255) (.lit 30)), false), ((.lt (.var 0 0 255) (.lit 24)), false), ((.lt (.var 0 0 255) (.lit 18)), false), ((.lt (.var 0 0 255) (.lit 12)), false), ((.lt (.var 0 0 255) (.lit 6)), false)]
def exc143 : List Pc := []
theorem start143_yes : startYes Tryd.prog (tabGlob tabs) lawEv 2130220 lawBody lawFn 17 100000 places143 exc143 (psV lawPs 0) (stTab tabs lawPc143) = true := by kernel_rfl
theorem places143_yes : ∀ p ∈ places143, placeYes Tryd.prog (tabGlob tabs) lawEv 2130220 lawBody lawFn 17 100000 places143 exc143 p = true :=
  (fun p h => by cases h)
theorem places143_paths : ∀ p ∈ places143, pathsOk p.stk :=
  (fun p h => by cases h)
theorem exc143_no : ∀ q ∈ exc143, ∀ i, ¬ Holds i q := by intro q hq; cases hq
def places159 : List Sx.Place := []
def lawPc159 : Pc := [((.eq (.var 4 (.negSucc 9223372036854775807) 9223372036854775807) (.lit 0)), false), ((.lt (.var 4 (.negSucc 9223372036854775807) 9223372036854775807) (.lit 0)), false), ((.eq (.var 0 0 255) (.lit 74)), true), ((.eq (.var 0 0 255) (.lit 73)), false), ((.eq (.var 0 0 255) (.lit 72)), false), ((.lt (.var 0 0 255) (.lit 78)), true), ((.lt (.var 0 0 255) (.lit 72)), false), ((.lt (.var 0 0 255) (.lit 66)), false), ((.lt (.var 0 0 255) (.lit 60)), false), ((.lt (.var 0 0 255) (.lit 54)), false), ((.lt (.var 0 0 255) (.lit 48)), false), ((.lt (.var 0 0 255) (.lit 42)), false), ((.lt (.var 0 0 255) (.lit 36)), false), ((.lt (.var 0 0 255) (.lit 30)), false), ((.lt (.var 0 0 255) (.lit 24)), false), ((.lt (.var 0 0 255) (.lit 18)), false), ((.lt (.var 0 0 255) (.lit 12)), false), ((.lt (.var 0 0 255) (.lit 6)), false)]
def exc159 : List Pc := []
theorem start159_yes : startYes Tryd.prog (tabGlob tabs) lawEv 2130220 lawBody lawFn 17 100000 places159 exc159 (psV lawPs 0) (stTab tabs lawPc159) = true := by kernel_rfl
theorem places159_yes : ∀ p ∈ places159, placeYes Tryd.prog (tabGlob tabs) lawEv 2130220 lawBody lawFn 17 100000 places159 exc159 p = true :=
  (fun p h => by cases h)
theorem places159_paths : ∀ p ∈ places159, pathsOk p.stk :=
  (fun p h => by cases h)
theorem exc159_no : ∀ q ∈ exc159, ∀ i, ¬ Holds i q := by intro q hq; cases hq
def places175 : List Sx.Place := []
def lawPc175 : Pc := [((.lt (.var 4 (.negSucc 9223372036854775807) 9223372036854775807) (.lit 0)), true), ((.eq (.var 0 0 255) (.lit 80)), true), ((.eq (.var 0 0 255) (.lit 79)), false), ((.eq (.var 0 0 255) (.lit 78)), false), ((.lt (.var 0 0 255) (.lit 84)), true), ((.lt (.var 0 0 255) (.lit 78)), false), ((.lt (.var 0 0 255) (.lit 72)), false), ((.lt (.var 0 0 255) (.lit 66)), false), ((.lt (.var 0 0 255) (.lit 60)), false), ((.lt (.var 0 0 255) (.lit 54)), false), ((.lt (.var 0 0 255) (.lit 48)), false), ((.lt (.var 0 0 255) (.lit 42)), false), ((.lt (.var 0 0 255) (.lit 36)), false), ((.lt (.var 0 0 255) (.lit 30)), false), ((.lt (.var 0 0 255) (.lit 24)), false), ((.lt (.var 0 0 255) (.lit 18)), false), ((.lt (.var 0 0 255) (.lit 12)), false), ((.lt (.var 0 0 255) (.lit 6)), false)]
def exc175 : List Pc := []
theorem start175_yes : startYes Tryd.prog (tabGlob tabs) lawEv 2130220 lawBody lawFn 17 100000 places175 exc175 (psV lawPs 0) (stTab tabs lawPc175) = true := by kernel_rfl
theorem places175_yes : ∀ p ∈ places175, placeYes Tryd.prog (tabGlob tabs) lawEv 2130220 lawBody lawFn 17 100000 places175 exc175 p = true :=
  (fun p h => by cases h)
theorem places175_paths : ∀ p ∈ places175, pathsOk p.stk :=
  (fun p h => by cases h)
theorem exc175_no : ∀ q ∈ exc175, ∀ i, ¬ Holds i q := by intro q hq; cases hq
def places191 : List Sx.Place := []
def lawPc191 : Pc := [((.eq (.var 4 (.negSucc 9223372036854775807) 9223372036854775807) (.lit 0)), true), ((.lt (.var 4 (.negSucc 9223372036854775807) 9223372036854775807) (.lit 0)), false), ((.eq (.var 0 0 255) (.lit 85)), true), ((.eq (.var 0 0 255) (.lit 84)), false), ((.lt (.var 0 0 255) (.lit 90)), true), ((.lt (.var 0 0 255) (.lit 84)), false), ((.lt (.var 0 0 255) (.lit 78)), false), ((.lt (.var 0 0 255) (.lit 72)), false), ((.lt (.var 0 0 255) (.lit 66)), false), ((.lt (.var 0 0 255) (.lit 60)), false), ((.lt (.var 0 0 255) (.lit 54)), false), ((.lt (.var 0 0 255) (.lit 48)), false), ((.lt (.var 0 0 255) (.lit 42)), false), ((.lt (.var 0 0 255) (.lit 36)), false), ((.lt (.var 0 0 255) (.lit 30)), false), ((.lt (.var 0 0 255) (.lit 24)), false), ((.lt (.var 0 0 255) (.lit 18)), false), ((.lt (.var 0 0 255) (.lit 12)), false), ((.lt (.var 0 0 255) (.lit 6)), false)]
def exc191 : List Pc := []
theorem start191_yes : startYes Tryd.prog (tabGlob tabs) lawEv 2130220 lawBody lawFn 17 100000 places191 exc191 (psV lawPs 0) (stTab tabs lawPc191) = true := by kernel_rfl
theorem places191_yes : ∀ p ∈ places191, placeYes Tryd.prog (tabGlob tabs) lawEv 2130220 lawBody lawFn 17 100000 places191 exc191 p = true :=
  (fun p h => by cases h)
theorem places191_paths : ∀ p ∈ places191, pathsOk p.stk :=
  (fun p h => by cases h)
theorem exc191_no : ∀ q ∈ exc191, ∀ i, ¬ Holds i q := by intro q hq; cases hq
def places207 : List Sx.Place := []
def lawPc207 : Pc := [((.eq (.var 4 (.negSucc 9223372036854775807) 9223372036854775807) (.lit 0)), false), ((.lt (.var 4 (.negSucc 9223372036854775807) 9223372036854775807) (.lit 0)), false), ((.eq (.var 0 0 255) (.lit 90)), true), ((.lt (.var 0 0 255) (.lit 96)), true), ((.lt (.var 0 0 255) (.lit 90)), false), ((.lt (.var 0 0 255) (.lit 84)), false), ((.lt (.var 0 0 255) (.lit 78)), false), ((.lt (.var 0 0 255) (.lit 72)), false), ((.lt (.var 0 0 255) (.lit 66)), false), ((.lt (.var 0 0 255) (.lit 60)), false), ((.lt (.var 0 0 255) (.lit 54)), false), ((.lt (.var 0 0 255) (.lit 48)), false), ((.lt (.var 0 0 255) (.lit 42)), false), ((.lt (.var 0 0 255) (.lit 36)), false), ((.lt (.var 0 0 255) (.lit 30)), false), ((.lt (.var 0 0 255) (.lit 24)), false), ((.lt (.var 0 0 255) (.lit 18)), false), ((.lt (.var 0 0 255) (.lit 12)), false), ((.lt (.var 0 0 255) (.lit 6)), false)]
def exc207 : List Pc := []
theorem start207_yes : startYes Tryd.prog (tabGlob tabs) lawEv 2130220 lawBody lawFn 17 100000 places207 exc207 (psV lawPs 0) (stTab tabs lawPc207) = true := by kernel_rfl
theorem places207_yes : ∀ p ∈ places207, placeYes Tryd.prog (tabGlob tabs) lawEv 2130220 lawBody lawFn 17 100000 places207 exc207 p = true :=
  (fun p h => by cases h)
theorem places207_paths : ∀ p ∈ places207, pathsOk p.stk :=
  (fun p h => by cases h)
theorem exc207_no : ∀ q ∈ exc207, ∀ i, ¬ Holds i q := by intro q hq; cases hq
def places223 : List Sx.Place := []
def lawPc223 : Pc := [((.lt (.var 4 (.negSucc 9223372036854775807) 9223372036854775807) (.lit 0)), true), ((.eq (.var 0 0 255) (.lit 97)), false), ((.eq (.var 0 0 255) (.lit 96)), false), ((.lt (.var 0 0 255) (.lit 99)), true), ((.lt (.var 0 0 255) (.lit 96)), false), ((.lt (.var 0 0 255) (.lit 90)), false), ((.lt (.var 0 0 255) (.lit 84)), false), ((.lt (.var 0 0 255) (.lit 78)), false), ((.lt (.var 0 0 255) (.lit 72)), false), ((.lt (.var 0 0 255) (.lit 66)), false), ((.lt (.var 0 0 255) (.lit 60)), false), ((.lt (.var 0 0 255) (.lit 54)), false), ((.lt (.var 0 0 255) (.lit 48)), false), ((.lt (.var 0 0 255) (.lit 42)), false), ((.lt (.var 0 0 255) (.lit 36)), false), ((.lt (.var 0 0 255) (.lit 30)), false), ((.lt (.var 0 0 255) (.lit 24)), false), ((.lt (.var 0 0 255) (.lit 18)), false), ((.lt (.var 0 0 255) (.lit 12)), false), ((.lt (.var 0 0 255) (.lit 6)), false)]
def exc223 : List Pc := []
theorem start223_yes : startYes Tryd.prog (tabGlob tabs) lawEv 2130220 lawBody lawFn 17 100000 places223 exc223 (psV lawPs 0) (stTab tabs lawPc223) = true := by kernel_rfl
theorem places223_yes : ∀ p ∈ places223, placeYes Tryd.prog (tabGlob tabs) lawEv 2130220 lawBody lawFn 17 100000 places223 exc223 p = true :=
  (fun p h => by cases h)
theorem places223_paths : ∀ p ∈ places223, pathsOk p.stk :=
  (fun p h => by cases h)
theorem exc223_no : ∀ q ∈ exc223, ∀ i, ¬ Holds i q := by intro q hq; cases hq
end
end Go.Proofs.YtjlfojjkdeflpaaDoor.Sx
