/- InstChecks: a part of its cases. -/
import Derived.Test.YtjlfojjkdeflpaaDoorUInstChecks
set_option linter.unusedVariables false
set_option linter.unusedSimpArgs false
namespace Go.Proofs.YtjlfojjkdeflpaaDoor.Sx
open Go
noncomputable section
set_option maxRecDepth 100000
def places1 : List Sx.Place := []
def lawPc1 : Pc := [((.eq (.var 0 0 255) (.lit 1)), true), ((.eq (.var 0 0 255) (.lit 0)), false), ((.lt (.var 0 0 255) (.lit 6)), true)]
def exc1 : List Pc := []
theorem start1_yes : startYes Tryd.prog (tabGlob tabs) lawEv 2130220 lawBody lawFn 17 100000 places1 exc1 (psV lawPs 0) (stTab tabs lawPc1) = true := by kernel_rfl
theorem places1_yes : ∀ p ∈ places1, placeYes Tryd.prog (tabGlob tabs) lawEv 2130220 lawBody lawFn 17 100000 places1 exc1 p = true :=
  (fun p h => by cases h)
theorem places1_paths : ∀ p ∈ places1, pathsOk p.stk :=
  (fun p h => by cases h)
theorem exc1_no : ∀ q ∈ exc1, ∀ i, ¬ Holds i q := by intro q hq; cases hq
def places17 : List Sx.Place := []
def lawPc17 : Pc := [((.eq (.var 0 0 255) (.lit 16)), true), ((.eq (.var 0 0 255) (.lit 15)), false), ((.eq (.var 0 0 255) (.lit 14)), false), ((.eq (.var 0 0 255) (.lit 13)), false), ((.eq (.var 0 0 255) (.lit 12)), false), ((.lt (.var 0 0 255) (.lit 18)), true), ((.lt (.var 0 0 255) (.lit 12)), false), ((.lt (.var 0 0 255) (.lit 6)), false)]
def exc17 : List Pc := []
theorem start17_yes : startYes Tryd.prog (tabGlob tabs) lawEv 2130220 lawBody lawFn 17 100000 places17 exc17 (psV lawPs 0) (stTab tabs lawPc17) = true := by kernel_rfl
theorem places17_yes : ∀ p ∈ places17, placeYes Tryd.prog (tabGlob tabs) lawEv 2130220 lawBody lawFn 17 100000 places17 exc17 p = true :=
  (fun p h => by cases h)
theorem places17_paths : ∀ p ∈ places17, pathsOk p.stk :=
  (fun p h => by cases h)
theorem exc17_no : ∀ q ∈ exc17, ∀ i, ¬ Holds i q := by intro q hq; cases hq
def places33 : List Sx.Place := []
def lawPc33 : Pc := [((.eq (.var 0 0 255) (.lit 29)), true), ((.eq (.var 0 0 255) (.lit 28)), false), ((.eq (.var 0 0 255) (.lit 27)), false), ((.eq (.var 0 0 255) (.lit 26)), false), ((.eq (.var 0 0 255) (.lit 25)), false), ((.eq (.var 0 0 255) (.lit 24)), false), ((.lt (.var 0 0 255) (.lit 30)), true), ((.lt (.var 0 0 255) (.lit 24)), false), ((.lt (.var 0 0 255) (.lit 18)), false), ((.lt (.var 0 0 255) (.lit 12)), false), ((.lt (.var 0 0 255) (.lit 6)), false)]
def exc33 : List Pc := []
theorem start33_yes : startYes Tryd.prog (tabGlob tabs) lawEv 2130220 lawBody lawFn 17 100000 places33 exc33 (psV lawPs 0) (stTab tabs lawPc33) = true := by kernel_rfl
theorem places33_yes : ∀ p ∈ places33, placeYes Tryd.prog (tabGlob tabs) lawEv 2130220 lawBody lawFn 17 100000 places33 exc33 p = true :=
  (fun p h => by cases h)
theorem places33_paths : ∀ p ∈ places33, pathsOk p.stk :=
  (fun p h => by cases h)
theorem exc33_no : ∀ q ∈ exc33, ∀ i, ¬ Holds i q := by intro q hq; cases hq
def places49 : List Sx.Place := []
def lawPc49 : Pc := [((.eq (.var 4 (.negSucc 9223372036854775807) 9223372036854775807) (.lit 0)), true), ((.lt (.var 4 (.negSucc 9223372036854775807) 9223372036854775807) (.lit 0)), false), ((.eq (.var 0 0 255) (.lit 34)), false), ((.eq (.var 0 0 255) (.lit 33)), false), ((.eq (.var 0 0 255) (.lit 32)), false), ((.eq (.var 0 0 255) (.lit 31)), false), ((.eq (.var 0 0 255) (.lit 30)), false), ((.lt (.var 0 0 255) (.lit 36)), true), ((.lt (.var 0 0 255) (.lit 30)), false), ((.lt (.var 0 0 255) (.lit 24)), false), ((.lt (.var 0 0 255) (.lit 18)), false), ((.lt (.var 0 0 255) (.lit 12)), false), ((.lt (.var 0 0 255) (.lit 6)), false)]
def exc49 : List Pc := []
theorem start49_yes : startYes Tryd.prog (tabGlob tabs) lawEv 2130220 lawBody lawFn 17 100000 places49 exc49 (psV lawPs 0) (stTab tabs lawPc49) = true := by kernel_rfl
theorem places49_yes : ∀ p ∈ places49, placeYes Tryd.prog (tabGlob tabs) lawEv 2130220 lawBody lawFn 17 100000 places49 exc49 p = true :=
  (fun p h => by cases h)
theorem places49_paths : ∀ p ∈ places49, pathsOk p.stk :=
  (fun p h => by cases h)
theorem exc49_no : ∀ q ∈ exc49, ∀ i, ¬ Holds i q := by intro q hq; cases hq
def places65 : List Sx.Place := []
def lawPc65 : Pc := [((.eq (.var 4 (.negSucc 9223372036854775807) 9223372036854775807) (.lit 0)), false), ((.lt (.var 4 (.negSucc 9223372036854775807) 9223372036854775807) (.lit 0)), false), ((.eq (.var 0 0 255) (.lit 40)), true), ((.eq (.var 0 0 255) (.lit 39)), false), ((.eq (.var 0 0 255) (.lit 38)), false), ((.eq (.var 0 0 255) (.lit 37)), false), ((.eq (.var 0 0 255) (.lit 36)), false), ((.lt (.var 0 0 255) (.lit 42)), true), ((.lt (.var 0 0 255) (.lit 36)), false), ((.lt (.var 0 0 255) (.lit 30)), false), ((.lt (.var 0 0 255) (.lit 24)), false), ((.lt (.var 0 0 255) (.lit 18)), false), ((.lt (.var 0 0 255) (.lit 12)), false), ((.lt (.var 0 0 255) (.lit 6)), false)]
def exc65 : List Pc := []
theorem start65_yes : startYes Tryd.prog (tabGlob tabs) lawEv 2130220 lawBody lawFn 17 100000 places65 exc65 (psV lawPs 0) (stTab tabs lawPc65) = true := by kernel_rfl
theorem places65_yes : ∀ p ∈ places65, placeYes Tryd.prog (tabGlob tabs) lawEv 2130220 lawBody lawFn 17 100000 places65 exc65 p = true :=
  (fun p h => by cases h)
theorem places65_paths : ∀ p ∈ places65, pathsOk p.stk :=
  (fun p h => by cases h)
theorem exc65_no : ∀ q ∈ exc65, ∀ i, ¬ Holds i q := by intro q hq; cases hq
def places81 : List Sx.Place := []
def lawPc81 : Pc := [((.eq (.var 4 (.negSucc 9223372036854775807) 9223372036854775807) (.lit 0)), false), ((.lt (.var 4 (.negSucc 9223372036854775807) 9223372036854775807) (.lit 0)), false), ((.eq (.var 0 0 255) (.lit 48)), true), ((.lt (.var 0 0 255) (.lit 54)), true), ((.lt (.var 0 0 255) (.lit 48)), false), ((.lt (.var 0 0 255) (.lit 42)), false), ((.lt (.var 0 0 255) (.lit 36)), false), ((.lt (.var 0 0 255) (.lit 30)), false), ((.lt (.var 0 0 255) (.lit 24)), false), ((.lt (.var 0 0 255) (.lit 18)), false), ((.lt (.var 0 0 255) (.lit 12)), false), ((.lt (.var 0 0 255) (.lit 6)), false)]
def exc81 : List Pc := []
theorem start81_yes : startYes Tryd.prog (tabGlob tabs) lawEv 2130220 lawBody lawFn 17 100000 places81 exc81 (psV lawPs 0) (stTab tabs lawPc81) = true := by kernel_rfl
theorem places81_yes : ∀ p ∈ places81, placeYes Tryd.prog (tabGlob tabs) lawEv 2130220 lawBody lawFn 17 100000 places81 exc81 p = true :=
  (fun p h => by cases h)
theorem places81_paths : ∀ p ∈ places81, pathsOk p.stk :=
  (fun p h => by cases h)
theorem exc81_no : ∀ q ∈ exc81, ∀ i, ¬ Holds i q := by intro q hq; cases hq
def places97 : List Sx.Place := []
def lawPc97 : Pc := [((.lt (.var 4 (.negSucc 9223372036854775807) 9223372036854775807) (.lit 0)), true), ((.eq (.var 0 0 255) (.lit 54)), true), ((.lt (.var 0 0 255) (.lit 60)), true), ((.lt (.var 0 0 255) (.lit 54)), false), ((.lt (.var 0 0 255) (.lit 48)), false), ((.lt (.var 0 0 255) (.lit 42)), false), ((.lt (.var 0 0 255) (.lit 36)), false), ((.lt (.var 0 0 255) (.lit 30)), false), ((.lt (.var 0 0 255) (.lit 24)), false), ((.lt (.var 0 0 255) (.lit 18)), false), ((.lt (.var 0 0 255) (.lit 12)), false), ((.lt (.var 0 0 255) (.lit 6)), false)]
def exc97 : List Pc := []
theorem start97_yes : startYes Tryd.prog (tabGlob tabs) lawEv 2130220 lawBody lawFn 17 100000 places97 exc97 (psV lawPs 0) (stTab tabs lawPc97) = true := by kernel_rfl
theorem places97_yes : ∀ p ∈ places97, placeYes Tryd.prog (tabGlob tabs) lawEv 2130220 lawBody lawFn 17 100000 places97 exc97 p = true :=
  (fun p h => by cases h)
theorem places97_paths : ∀ p ∈ places97, pathsOk p.stk :=
  (fun p h => by cases h)
theorem exc97_no : ∀ q ∈ exc97, ∀ i, ¬ Holds i q := by intro q hq; cases hq
def places113 : List Sx.Place := []
def lawPc113 : Pc := [((.eq (.var 4 (.negSucc 9223372036854775807) 9223372036854775807) (.lit 0)), true), ((.lt (.var 4 (.negSucc 9223372036854775807) 9223372036854775807) (.lit 0)), false), ((.eq (.var 0 0 255) (.lit 58)), false), ((.eq (.var 0 0 255) (.lit 57)), false), ((.eq (.var 0 0 255) (.lit 56)), false), ((.eq (.var 0 0 255) (.lit 55)), false), ((.eq (.var 0 0 255) (.lit 54)), false), ((.lt (.var 0 0 255) (.lit 60)), true), ((.lt (.var 0 0 255) (.lit 54)), false), ((.lt (.var 0 0 255) (.lit 48)), false), ((.lt (.var 0 0 255) (.lit 42)), false), ((.lt (.var 0 0 255) (.lit 36)), false), ((.lt (.var 0 0 255) (.lit 30)), false), ((.lt (.var 0 0 255) (.lit 24)), false), ((.lt (.var 0 0 255) (.lit 18)), false), ((.lt (.var 0 0 255) (.lit 12)), false), ((.lt (.var 0 0 255) (.lit 6)), false)]
def exc113 : List Pc := []
theorem start113_yes : startYes Tryd.prog (tabGlob tabs) lawEv 2130220 lawBody lawFn 17 100000 places113 exc113 (psV lawPs 0) (stTab tabs lawPc113) = true := by kernel_rfl
theorem places113_yes : ∀ p ∈ places113, placeYes Tryd.prog (tabGlob tabs) lawEv 2130220 lawBody lawFn 17 100000 places113 exc113 p = true :=
  (fun p h => by cases h)
theorem places113_paths : ∀ p ∈ places113, pathsOk p.stk :=
  (fun p h => by cases h)
theorem exc113_no : ∀ q ∈ exc113, ∀ i, ¬ Holds i q := by intro q hq; cases hq
def places129 : List Sx.Place := []
def lawPc129 : Pc := [((.eq (.var 4 (.negSucc 9223372036854775807) 9223372036854775807) (.lit 0)), false), ((.lt (.var 4 (.negSucc 9223372036854775807) 9223372036854775807) (.lit 0)), false), ((.eq (.var 0 0 255) (.lit 64)), true), ((.eq (.var 0 0 255) (.lit 63)), false), ((.eq (.var 0 0 255) (.lit 62)), false), ((.eq (.var 0 0 255) (.lit 61)), false), ((.eq (.var 0 0 255) (.lit 60)), false), ((.lt (.var 0 0 255) (.lit 66)), true), ((.lt (.var 0 0 255) (.lit 60)), false), ((.lt (.var 0 0 255) (.lit 54)), false), ((.lt (.var 0 0 255) (.lit 48)), false), ((.lt (.var 0 0 255) (.lit 42)), false), ((.lt (.var 0 0 255) (.lit 36)), false), ((.lt (.var 0 0 255) (.lit 30)), false), ((.lt (.var 0 0 255) (.lit 24)), false), ((.lt (.var 0 0 255) (.lit 18)), false), ((.lt (.var 0 0 255) (.lit 12)), false), ((.lt (.var 0 0 255) (.lit 6)), false)]
def exc129 : List Pc := []
theorem start129_yes : startYes Tryd.prog (tabGlob tabs) lawEv 2130220 lawBody lawFn 17 100000 places129 exc129 (psV lawPs 0) (stTab tabs lawPc129) = true := by kernel_rfl
theorem places129_yes : ∀ p ∈ places129, placeYes Tryd.prog (tabGlob tabs) lawEv 2130220 lawBody lawFn 17 100000 places129 exc129 p = true :=
  (fun p h => by cases h)
theorem places129_paths : ∀ p ∈ places129, pathsOk p.stk :=
  (fun p h => by cases h)
theorem exc129_no : ∀ q ∈ exc129, ∀ i, ¬ Holds i q := by intro q hq; cases hq
def places145 : List Sx.Place := []
def lawPc145 : Pc := [((.lt (.var 4 (.negSucc 9223372036854775807) 9223372036854775807) (.lit 0)), true), ((.eq (.var 0 0 255) (.lit 70)), true), ((.eq (.var 0 0 255) (.lit 69)), false), ((.eq (.var 0 0 255) (.lit 68)), false), ((.eq (.var 0 0 255) (.lit 67)), false), ((.eq (.var 0 0 255) (.lit 66)), false), ((.lt (.var 0 0 255) (.lit 72)), true), ((.lt (.var 0 0 255) (.lit 66)), false), ((.lt (.var 0 0 255) (.lit 60)), false), ((.lt (.var 0 0 255) (.lit 54)), false), ((.lt (.var 0 0 255) (.lit 48)), false), ((.lt (.var 0 0 255) (.lit 42)), false), ((.lt (.var 0 0 255) (.lit 36)), false), ((.lt (.var 0 0 255) (.lit 30)), false), ((.lt (.var 0 0 255) (.lit 24)), false), ((.lt (.var 0 0 255) (.lit 18)), false), ((.lt (.var 0 0 255) (.lit 12)), false), ((.lt (.var 0 0 255) (.lit 6)), false)]
def exc145 : List Pc := []
theorem start145_yes : startYes Tryd.prog (tabGlob tabs) lawEv 2130220 lawBody lawFn 17 100000 places145 exc145 (psV lawPs 0) (stTab tabs lawPc145) = true := by kernel_rfl
theorem places145_yes : ∀ p ∈ places145, placeYes Tryd.prog (tabGlob tabs) lawEv 2130220 lawBody lawFn 17 100000 places145 exc145 p = true :=
  (fun p h => by cases h)
theorem places145_paths : ∀ p ∈ places145, pathsOk p.stk :=
  (fun p h => by cases h)
theorem exc145_no : ∀ q ∈ exc145, ∀ i, ¬ Holds i q := by intro q hq; cases hq
def places161 : List Sx.Place := []
def lawPc161 : Pc := [((.eq (.var 4 (.negSucc 9223372036854775807) 9223372036854775807) (.lit 0)), true), ((.lt (.var 4 (.negSucc 9223372036854775807) 9223372036854775807) (.lit 0)), false), ((.eq (.var 0 0 255) (.lit 75)), true), ((.eq (.var 0 0 255) (.lit 74)), false), ((.eq (.var 0 0 255) (.lit 73)), false), ((.eq (.var 0 0 255) (.lit 72)), false), ((.lt (.var 0 0 255) (.lit 78)), true), ((.lt (.var 0 0 255) (.lit 72)), false), ((.lt (.var 0 0 255) (.lit 66)), false), ((.lt (.var 0 0 255) (.lit 60)), false), ((.lt (.var 0 0 255) (.lit 54)), false), ((.lt (.var 0 0 255) (.lit 48)), false), ((.lt (.var 0 0 255) (.lit 42)), false), ((.lt (.var 0 0 255) (.lit 36)), false), ((.lt (.var 0 0 255) (.lit 30)), false), ((.lt (.var 0 0 255) (.lit 24)), false), ((.lt (.var 0 0 255) (.lit 18)), false), ((.lt (.var 0 0 255) (.lit 12)), false), ((.lt (.var 0 0 255) (.lit 6)), false)]
def exc161 : List Pc := []
theorem start161_yes : startYes Tryd.prog (tabGlob tabs) lawEv 2130220 lawBody lawFn 17 100000 places161 exc161 (psV lawPs 0) (stTab tabs lawPc161) = true := by kernel_rfl
theorem places161_yes : ∀ p ∈ places161, placeYes Tryd.prog (tabGlob tabs) lawEv 2130220 lawBody lawFn 17 100000 places161 exc161 p = true :=
  (fun p h => by cases h)
theorem places161_paths : ∀ p ∈ places161, pathsOk p.stk :=
  (fun p h => by cases h)
theorem exc161_no : ∀ q ∈ exc161, ∀ i, ¬ Holds i q := by intro q hq; cases hq
def places177 : List Sx.Place := []
def lawPc177 : Pc := [((.eq (.var 4 (.negSucc 9223372036854775807) 9223372036854775807) (.lit 0)), false), ((.lt (.var 4 (.negSucc 9223372036854775807) 9223372036854775807) (.lit 0)), false), ((.eq (.var 0 0 255) (.lit 80)), true), ((.eq (.var 0 0 255) (.lit 79)), false), ((.eq (.var 0 0 255) (.lit 78)), false), ((.lt (.var 0 0 255) (.lit 84)), true), ((.lt (.var 0 0 255) (.lit 78)), false), ((.lt (.var 0 0 255) (.lit 72)), false), ((.lt (.var 0 0 255) (.lit 66)), false), ((.lt (.var 0 0 255) (.lit 60)), false), ((.lt (.var 0 0 255) (.lit 54)), false), ((.lt (.var 0 0 255) (.lit 48)), false), ((.lt (.var 0 0 255) (.lit 42)), false), ((.lt (.var 0 0 255) (.lit 36)), false), ((.lt (.var 0 0 255) (.lit 30)), false), ((.lt (.var 0 0 255) (.lit 24)), false), ((.lt (.var 0 0 255) (.lit 18)), false), ((.lt (.var 0 0 255) (.lit 12)), false), ((.lt (.var 0 0 255) (.lit 6)), false)]
def exc177 : List Pc := []
theorem start177_yes : startYes Tryd.prog (tabGlob tabs) lawEv 2130220 lawBody lawFn 17 100000 places177 exc177 (psV lawPs 0) (stTab tabs lawPc177) = true := by kernel_rfl
theorem places177_yes : ∀ p ∈ places177, placeYes Tryd.prog (tabGlob tabs) lawEv 2130220 lawBody lawFn 17 100000 places177 exc177 p = true :=
  (fun p h => by cases h)
theorem places177_paths : ∀ p ∈ places177, pathsOk p.stk :=
  (fun p h => by cases h)
theorem exc177_no : ∀ q ∈ exc177, ∀ i, ¬ Holds i q := by intro q hq; cases hq
def places193 : List Sx.Place := []
def lawPc193 : Pc := [((.lt (.var 4 (.negSucc 9223372036854775807) 9223372036854775807) (.lit 0)), true), ((.eq (.var 0 0 255) (.lit 86)), true), ((.eq (.var 0 0 255) (.lit 85)), false), ((.eq (.var 0 0 255) (.lit 84)), false), ((.lt (.var 0 0 255) (.lit 90)), true), ((.lt (.var 0 0 255) (.lit 84)), false), ((.lt (.var 0 0 255) (.lit 78)), false), ((.lt (.var 0 0 255) (.lit 72)), false), ((.lt (.var 0 0 255) (.lit 66)), false), ((.lt (.var 0 0 255) (.lit 60)), false), ((.lt (.var 0 0 255) (.lit 54)), false), ((.lt (.var 0 0 255) (.lit 48)), false), ((.lt (.var 0 0 255) (.lit 42)), false), ((.lt (.var 0 0 255) (.lit 36)), false), ((.lt (.var 0 0 255) (.lit 30)), false), ((.lt (.var 0 0 255) (.lit 24)), false), ((.lt (.var 0 0 255) (.lit 18)), false), ((.lt (.var 0 0 255) (.lit 12)), false), ((.lt (.var 0 0 255) (.lit 6)), false)]
def exc193 : List Pc := []
theorem start193_yes : startYes Tryd.prog (tabGlob tabs) lawEv 2130220 lawBody lawFn 17 100000 places193 exc193 (psV lawPs 0) (stTab tabs lawPc193) = true := by kernel_rfl
theorem places193_yes : ∀ p ∈ places193, placeYes Tryd.prog (tabGlob tabs) lawEv 2130220 lawBody lawFn 17 100000 places193 exc193 p = true :=
  (fun p h => by cases h)
theorem places193_paths : ∀ p ∈ places193, pathsOk p.stk :=
  (fun p h => by cases h)
theorem exc193_no : ∀ q ∈ exc193, ∀ i, ¬ Holds i q := by intro q hq; cases hq
def places209 : List Sx.Place := []
def lawPc209 : Pc := [((.eq (.var 4 (.negSucc 9223372036854775807) 9223372036854775807) (.lit 0)), true), ((.lt (.var 4 (.negSucc 9223372036854775807) 9223372036854775807) (.lit 0)), false), ((.eq (.var 0 0 255) (.lit 91)), true), ((.eq (.var 0 0 255) (.lit 90)), false), ((.lt (.var 0 0 255) (.lit 96)), true), ((.lt (.var 0 0 255) (.lit 90)), false), ((.lt (.var 0 0 255) (.lit 84)), false), ((.lt (.var 0 0 255) (.lit 78)), false), ((.lt (.var 0 0 255) (.lit 72)), false), ((.lt (.var 0 0 255) (.lit 66)), false), ((.lt (.var 0 0 255) (.lit 60)), false), ((.lt (.var 0 0 255) (.lit 54)), false), ((.lt (.var 0 0 255) (.lit 48)), false), ((.lt (.var 0 0 255) (.lit 42)), false), ((.lt (.var 0 0 255) (.lit 36)), false), ((.lt (.var 0 0 255) (.lit 30)), false), ((.lt (.var 0 0 255) (.lit 24)), false), ((.lt (.var 0 0 255) (.lit 18)), false), ((.lt (.var 0 0 255) (.lit 12)), false), ((.lt (.var 0 0 255) (.lit 6)), false)]
def exc209 : List Pc := []
theorem start209_yes : startYes Tryd.prog (tabGlob tabs) lawEv 2130220 lawBody lawFn 17 100000 places209 exc209 (psV lawPs 0) (stTab tabs lawPc209) = true := by kernel_rfl
theorem places209_yes : ∀ p ∈ places209, placeYes Tryd.prog (tabGlob tabs) lawEv 2130220 lawBody lawFn 17 100000 places209 exc209 p = true :=
  (fun p h => by cases h)
theorem places209_paths : ∀ p ∈ places209, pathsOk p.stk :=
  (fun p h => by cases h)
theorem exc209_no : ∀ q ∈ exc209, ∀ i, ¬ Holds i q := by intro q hq; cases hq
def places225 : List Sx.Place := []
def lawPc225 : Pc := [((.eq (.var 4 (.negSucc 9223372036854775807) 9223372036854775807) (.lit 0)), false), ((.lt (.var 4 (.negSucc 9223372036854775807) 9223372036854775807) (.lit 0)), false), ((.eq (.var 0 0 255) (.lit 97)), false), ((.eq (.var 0 0 255) (.lit 96)), false), ((.lt (.var 0 0 255) (.lit 99)), true), ((.lt (.var 0 0 255) (.lit 96)), false), ((.lt (.var 0 0 255) (.lit 90)), false), ((.lt (.var 0 0 255) (.lit 84)), false), ((.lt (.var 0 0 255) (.lit 78)), false), ((.lt (.var 0 0 255) (.lit 72)), false), ((.lt (.var 0 0 255) (.lit 66)), false), ((.lt (.var 0 0 255) (.lit 60)), false), ((.lt (.var 0 0 255) (.lit 54)), false), ((.lt (.var 0 0 255) (.lit 48)), false), ((.lt (.var 0 0 255) (.lit 42)), false), ((.lt (.var 0 0 255) (.lit 36)), false), ((.lt (.var 0 0 255) (.lit 30)), false), ((.lt (.var 0 0 255) (.lit 24)), false), ((.lt (.var 0 0 255) (.lit 18)), false), ((.lt (.var 0 0 255) (.lit 12)), false), ((.lt (.var 0 0 255) (.lit 6)), false)]
def exc225 : List Pc := []
theorem start225_yes : startYes Tryd.prog (tabGlob tabs) lawEv 2130220 lawBody lawFn 17 100000 places225 exc225 (psV lawPs 0) (stTab tabs lawPc225) = true := by kernel_rfl
theorem places225_yes : ∀ p ∈ places225, placeYes Tryd.prog (tabGlob tabs) lawEv 2130220 lawBody lawFn 17 100000 places225 exc225 p = true :=
  (fun p h => by cases h)
theorem places225_paths : ∀ p ∈ places225, pathsOk p.stk :=
  (fun p h => by cases h)
theorem exc225_no : ∀ q ∈ exc225, ∀ i, ¬ Holds i q := by intro q hq; cases hq
end
end Go.Proofs.YtjlfojjkdeflpaaDoor.Sx
