/- InstChecks: a part of its cases. -/
import Derived.Test.YtjlfojjkdeflpaaDoorUInstChecks
set_option linter.unusedVariables false
set_option linter.unusedSimpArgs false
namespace Go.Proofs.YtjlfojjkdeflpaaDoor.Sx
open Go
noncomputable section
set_option maxRecDepth 100000
def places9 : List Sx.Place := []
def lawPc9 : Pc := [((.eq (.var 0 0 255) (.lit 9)), true), ((.eq (.var 0 0 255) (.lit 8)), false), ((.eq (.var 0 0 255) (.lit 7)), false), ((.eq (.var 0 0 255) (.lit 6)), false), ((.lt (.var 0 0 255) (.lit 12)), true), ((.lt (.var 0 0 255) (.lit 6)), false)]
def exc9 : List Pc := []
theorem start9_yes : startYes Tryd.prog (tabGlob tabs) lawEv 2130220 lawBody lawFn 17 100000 places9 exc9 (psV lawPs 0) (stTab tabs lawPc9) = true := by kernel_rfl
theorem places9_yes : ∀ p ∈ places9, placeYes Tryd.prog (tabGlob tabs) lawEv 2130220 lawBody lawFn 17 100000 places9 exc9 p = true :=
  (fun p h => by cases h)
theorem places9_paths : ∀ p ∈ places9, pathsOk p.stk :=
  (fun p h => by cases h)
theorem exc9_no : ∀ q ∈ exc9, ∀ i, ¬ Holds i q := by intro q hq; cases hq
def places25 : List Sx.Place := []
def lawPc25 : Pc := [((.eq (.ar .and .u32 (.ar .or .u32 (.ar .or .u32 (.ar .or .u32 (.lit 8211) (.ar .shl .u32 (.var 1 0 255) (.lit 7))) (.ar .shl .u32 (.var 2 0 255) (.lit 15))) (.conv .u32 (.ar .shl .u64 (.ar .rem .u64 (.conv .u64 (.var 4 (-9223372036854775808) 9223372036854775807)) (.lit 4096)) (.lit 20)))) (.lit 28799)) (.lit 8211)), true), ((.eq (.var 0 0 255) (.lit 23)), true), ((.lt (.var 1 0 255) (.lit 32)), true), ((.eq (.var 0 0 255) (.lit 22)), false), ((.eq (.var 0 0 255) (.lit 21)), false), ((.eq (.var 0 0 255) (.lit 20)), false), ((.eq (.var 0 0 255) (.lit 19)), false), ((.eq (.var 0 0 255) (.lit 18)), false), ((.lt (.var 0 0 255) (.lit 24)), true), ((.lt (.var 0 0 255) (.lit 18)), false), ((.lt (.var 0 0 255) (.lit 12)), false), ((.lt (.var 0 0 255) (.lit 6)), false)]
def exc25 : List Pc := []
theorem start25_yes : startYes Tryd.prog (tabGlob tabs) lawEv 2130220 lawBody lawFn 17 100000 places25 exc25 (psV lawPs 0) (stTab tabs lawPc25) = true := by kernel_rfl
theorem places25_yes : ∀ p ∈ places25, placeYes Tryd.prog (tabGlob tabs) lawEv 2130220 lawBody lawFn 17 100000 places25 exc25 p = true :=
  (fun p h => by cases h)
theorem places25_paths : ∀ p ∈ places25, pathsOk p.stk :=
  (fun p h => by cases h)
theorem exc25_no : ∀ q ∈ exc25, ∀ i, ¬ Holds i q := by intro q hq; cases hq
def places41 : List Sx.Place := []
def lawPc41 : Pc := [((.eq (.var 4 (.negSucc 9223372036854775807) 9223372036854775807) (.lit 0)), false), ((.lt (.var 4 (.negSucc 9223372036854775807) 9223372036854775807) (.lit 0)), false), ((.eq (.var 0 0 255) (.lit 32)), true), ((.eq (.var 0 0 255) (.lit 31)), false), ((.eq (.var 0 0 255) (.lit 30)), false), ((.lt (.var 0 0 255) (.lit 36)), true), ((.lt (.var 0 0 255) (.lit 30)), false), ((.lt (.var 0 0 255) (.lit 24)), false), ((.lt (.var 0 0 255) (.lit 18)), false), ((.lt (.var 0 0 255) (.lit 12)), false), ((.lt (.var 0 0 255) (.lit 6)), false)]
def exc41 : List Pc := []
theorem start41_yes : startYes Tryd.prog (tabGlob tabs) lawEv 2130220 lawBody lawFn 17 100000 places41 exc41 (psV lawPs 0) (stTab tabs lawPc41) = true := by kernel_rfl
theorem places41_yes : ∀ p ∈ places41, placeYes Tryd.prog (tabGlob tabs) lawEv 2130220 lawBody lawFn 17 100000 places41 exc41 p = true :=
  (fun p h => by cases h)
theorem places41_paths : ∀ p ∈ places41, pathsOk p.stk :=
  (fun p h => by cases h)
theorem exc41_no : ∀ q ∈ exc41, ∀ i, ¬ Holds i q := by intro q hq; cases hq
def places57 : List Sx.Place := []
def lawPc57 : Pc := [((.lt (.var 4 (.negSucc 9223372036854775807) 9223372036854775807) (.lit 0)), true), ((.eq (.var 0 0 255) (.lit 38)), true), ((.eq (.var 0 0 255) (.lit 37)), false), ((.eq (.var 0 0 255) (.lit 36)), false), ((.lt (.var 0 0 255) (.lit 42)), true), ((.lt (.var 0 0 255) (.lit 36)), false), ((.lt (.var 0 0 255) (.lit 30)), false), ((.lt (.var 0 0 255) (.lit 24)), false), ((.lt (.var 0 0 255) (.lit 18)), false), ((.lt (.var 0 0 255) (.lit 12)), false), ((.lt (.var 0 0 255) (.lit 6)), false)]
def exc57 : List Pc := []
theorem start57_yes : startYes Tryd.prog (tabGlob tabs) lawEv 2130220 lawBody lawFn 17 100000 places57 exc57 (psV lawPs 0) (stTab tabs lawPc57) = true := by kernel_rfl
theorem places57_yes : ∀ p ∈ places57, placeYes Tryd.prog (tabGlob tabs) lawEv 2130220 lawBody lawFn 17 100000 places57 exc57 p = true :=
  (fun p h => by cases h)
theorem places57_paths : ∀ p ∈ places57, pathsOk p.stk :=
  (fun p h => by cases h)
theorem exc57_no : ∀ q ∈ exc57, ∀ i, ¬ Holds i q := by intro q hq; cases hq
def places73 : List Sx.Place := []
def lawPc73 : Pc := [((.lt (.var 4 (.negSucc 9223372036854775807) 9223372036854775807) (.lit 0)), true), ((.eq (.var 0 0 255) (.lit 46)), true), ((.eq (.var 0 0 255) (.lit 45)), false), ((.eq (.var 0 0 255) (.lit 44)), false), ((.eq (.var 0 0 255) (.lit 43)), false), ((.eq (.var 0 0 255) (.lit 42)), false), ((.lt (.var 0 0 255) (.lit 48)), true), ((.lt (.var 0 0 255) (.lit 42)), false), ((.lt (.var 0 0 255) (.lit 36)), false), ((.lt (.var 0 0 255) (.lit 30)), false), ((.lt (.var 0 0 255) (.lit 24)), false), ((.lt (.var 0 0 255) (.lit 18)), false), ((.lt (.var 0 0 255) (.lit 12)), false), ((.lt (.var 0 0 255) (.lit 6)), false)]
def exc73 : List Pc := []
theorem start73_yes : startYes Tryd.prog (tabGlob tabs) lawEv 2130220 lawBody lawFn 17 100000 places73 exc73 (psV lawPs 0) (stTab tabs lawPc73) = true := by kernel_rfl
theorem places73_yes : ∀ p ∈ places73, placeYes Tryd.prog (tabGlob tabs) lawEv 2130220 lawBody lawFn 17 100000 places73 exc73 p = true :=
  (fun p h => by cases h)
theorem places73_paths : ∀ p ∈ places73, pathsOk p.stk :=
  (fun p h => by cases h)
theorem exc73_no : ∀ q ∈ exc73, ∀ i, ¬ Holds i q := by intro q hq; cases hq
def places89 : List Sx.Place := []
def lawPc89 : Pc := [((.eq (.var 4 (.negSucc 9223372036854775807) 9223372036854775807) (.lit 0)), true), ((.lt (.var 4 (.negSucc 9223372036854775807) 9223372036854775807) (.lit 0)), false), ((.eq (.var 0 0 255) (.lit 51)), true), ((.eq (.var 0 0 255) (.lit 50)), false), ((.eq (.var 0 0 255) (.lit 49)), false), ((.eq (.var 0 0 255) (.lit 48)), false), ((.lt (.var 0 0 255) (.lit 54)), true), ((.lt (.var 0 0 255) (.lit 48)), false), ((.lt (.var 0 0 255) (.lit 42)), false), ((.lt (.var 0 0 255) (.lit 36)), false), ((.lt (.var 0 0 255) (.lit 30)), false), ((.lt (.var 0 0 255) (.lit 24)), false), ((.lt (.var 0 0 255) (.lit 18)), false), ((.lt (.var 0 0 255) (.lit 12)), false), ((.lt (.var 0 0 255) (.lit 6)), false)]
def exc89 : List Pc := []
theorem start89_yes : startYes Tryd.prog (tabGlob tabs) lawEv 2130220 lawBody lawFn 17 100000 places89 exc89 (psV lawPs 0) (stTab tabs lawPc89) = true := by kernel_rfl
theorem places89_yes : ∀ p ∈ places89, placeYes Tryd.prog (tabGlob tabs) lawEv 2130220 lawBody lawFn 17 100000 places89 exc89 p = true :=
  (fun p h => by cases h)
theorem places89_paths : ∀ p ∈ places89, pathsOk p.stk :=
  (fun p h => by cases h)
theorem exc89_no : ∀ q ∈ exc89, ∀ i, ¬ Holds i q := by intro q hq; cases hq
def places105 : List Sx.Place := []
def lawPc105 : Pc := [((.eq (.var 4 (.negSucc 9223372036854775807) 9223372036854775807) (.lit 0)), false), ((.lt (.var 4 (.negSucc 9223372036854775807) 9223372036854775807) (.lit 0)), false), ((.eq (.var 0 0 255) (.lit 56)), true), ((.eq (.var 0 0 255) (.lit 55)), false), ((.eq (.var 0 0 255) (.lit 54)), false), ((.lt (.var 0 0 255) (.lit 60)), true), ((.lt (.var 0 0 255) (.lit 54)), false), ((.lt (.var 0 0 255) (.lit 48)), false), ((.lt (.var 0 0 255) (.lit 42)), false), ((.lt (.var 0 0 255) (.lit 36)), false), ((.lt (.var 0 0 255) (.lit 30)), false), ((.lt (.var 0 0 255) (.lit 24)), false), ((.lt (.var 0 0 255) (.lit 18)), false), ((.lt (.var 0 0 255) (.lit 12)), false), ((.lt (.var 0 0 255) (.lit 6)), false)]
def exc105 : List Pc := []
theorem start105_yes : startYes Tryd.prog (tabGlob tabs) lawEv 2130220 lawBody lawFn 17 100000 places105 exc105 (psV lawPs 0) (stTab tabs lawPc105) = true := by kernel_rfl
theorem places105_yes : ∀ p ∈ places105, placeYes Tryd.prog (tabGlob tabs) lawEv 2130220 lawBody lawFn 17 100000 places105 exc105 p = true :=
  (fun p h => by cases h)
theorem places105_paths : ∀ p ∈ places105, pathsOk p.stk :=
  (fun p h => by cases h)
theorem exc105_no : ∀ q ∈ exc105, ∀ i, ¬ Holds i q := by intro q hq; cases hq
def places121 : List Sx.Place := []
def lawPc121 : Pc := [((.lt (.var 4 (.negSucc 9223372036854775807) 9223372036854775807) (.lit 0)), true), ((.eq (.var 0 0 255) (.lit 62)), true), ((.eq (.var 0 0 255) (.lit 61)), false), ((.eq (.var 0 0 255) (.lit 60)), false), ((.lt (.var 0 0 255) (.lit 66)), true), ((.lt (.var 0 0 255) (.lit 60)), false), ((.lt (.var 0 0 255) (.lit 54)), false), ((.lt (.var 0 0 255) (.lit 48)), false), ((.lt (.var 0 0 255) (.lit 42)), false), ((.lt (.var 0 0 255) (.lit 36)), false), ((.lt (.var 0 0 255) (.lit 30)), false), ((.lt (.var 0 0 255) (.lit 24)), false), ((.lt (.var 0 0 255) (.lit 18)), false), ((.lt (.var 0 0 255) (.lit 12)), false), ((.lt (.var 0 0 255) (.lit 6)), false)]
def exc121 : List Pc := []
theorem start121_yes : startYes Tryd.prog (tabGlob tabs) lawEv 2130220 lawBody lawFn 17 100000 places121 exc121 (psV lawPs 0) (stTab tabs lawPc121) = true := by kernel_rfl
theorem places121_yes : ∀ p ∈ places121, placeYes Tryd.prog (tabGlob tabs) lawEv 2130220 lawBody lawFn 17 100000 places121 exc121 p = true :=
  (fun p h => by cases h)
theorem places121_paths : ∀ p ∈ places121, pathsOk p.stk :=
  (fun p h => by cases h)
theorem exc121_no : ∀ q ∈ exc121, ∀ i, ¬ Holds i q := by intro q hq; cases hq
def places137 : List Sx.Place := []
def lawPc137 : Pc := [((.eq (.var 4 (.negSucc 9223372036854775807) 9223372036854775807) (.lit 0)), true), ((.lt (.var 4 (.negSucc 9223372036854775807) 9223372036854775807) (.lit 0)), false), ((.eq (.var 0 0 255) (.lit 67)), true), ((.eq (.var 0 0 255) (.lit 66)), false), ((.lt (.var 0 0 255) (.lit 72)), true), ((.lt (.var 0 0 255) (.lit 66)), false), ((.lt (.var 0 0 255) (.lit 60)), false), ((.lt (.var 0 0 255) (.lit 54)), false), ((.lt (.var 0 0 255) (.lit 48)), false), ((.lt (.var 0 0 255) (.lit 42)), false), ((.lt (.var 0 0 255) (.lit 36)), false), ((.lt (.var 0 0 255) (.lit 30)), false), ((.lt (.var 0 0 255) (.lit 24)), false), ((.lt (.var 0 0 255) (.lit 18)), false), ((.lt (.var 0 0 255) (.lit 12)), false), ((.lt (.var 0 0 255) (.lit 6)), false)]
def exc137 : List Pc := []
theorem start137_yes : startYes Tryd.prog (tabGlob tabs) lawEv 2130220 lawBody lawFn 17 100000 places137 exc137 (psV lawPs 0) (stTab tabs lawPc137) = true := by kernel_rfl
theorem places137_yes : ∀ p ∈ places137, placeYes Tryd.prog (tabGlob tabs) lawEv 2130220 lawBody lawFn 17 100000 places137 exc137 p = true :=
  (fun p h => by cases h)
theorem places137_paths : ∀ p ∈ places137, pathsOk p.stk :=
  (fun p h => by cases h)
theorem exc137_no : ∀ q ∈ exc137, ∀ i, ¬ Holds i q := by intro q hq; cases hq
def places153 : List Sx.Place := []
def lawPc153 : Pc := [((.eq (.var 4 (.negSucc 9223372036854775807) 9223372036854775807) (.lit 0)), false), ((.lt (.var 4 (.negSucc 9223372036854775807) 9223372036854775807) (.lit 0)), false), ((.eq (.var 0 0 255) (.lit 72)), true), ((.lt (.var 0 0 255) (.lit 78)), true), ((.lt (.var 0 0 255) (.lit 72)), false), ((.lt (.var 0 0 255) (.lit 66)), false), ((.lt (.var 0 0 255) (.lit 60)), false), ((.lt (.var 0 0 255) (.lit 54)), false), ((.lt (.var 0 0 255) (.lit 48)), false), ((.lt (.var 0 0 255) (.lit 42)), false), ((.lt (.var 0 0 255) (.lit 36)), false), ((.lt (.var 0 0 255) (.lit 30)), false), ((.lt (.var 0 0 255) (.lit 24)), false), ((.lt (.var 0 0 255) (.lit 18)), false), ((.lt (.var 0 0 255) (.lit 12)), false), ((.lt (.var 0 0 255) (.lit 6)), false)]
def exc153 : List Pc := []
theorem start153_yes : startYes Tryd.prog (tabGlob tabs) lawEv 2130220 lawBody lawFn 17 100000 places153 exc153 (psV lawPs 0) (stTab tabs lawPc153) = true := by kernel_rfl
theorem places153_yes : ∀ p ∈ places153, placeYes Tryd.prog (tabGlob tabs) lawEv 2130220 lawBody lawFn 17 100000 places153 exc153 p = true :=
  (fun p h => by cases h)
theorem places153_paths : ∀ p ∈ places153, pathsOk p.stk :=
  (fun p h => by cases h)
theorem exc153_no : ∀ q ∈ exc153, ∀ i, ¬ Holds i q := by intro q hq; cases hq
def places169 : List Sx.Place := []
def lawPc169 : Pc := [((.lt (.var 4 (.negSucc 9223372036854775807) 9223372036854775807) (.lit 0)), true), ((.eq (.var 0 0 255) (.lit 78)), true), ((.lt (.var 0 0 255) (.lit 84)), true), ((.lt (.var 0 0 255) (.lit 78)), false), ((.lt (.var 0 0 255) (.lit 72)), false), ((.lt (.var 0 0 255) (.lit 66)), false), ((.lt (.var 0 0 255) (.lit 60)), false), ((.lt (.var 0 0 255) (.lit 54)), false), ((.lt (.var 0 0 255) (.lit 48)), false), ((.lt (.var 0 0 255) (.lit 42)), false), ((.lt (.var 0 0 255) (.lit 36)), false), ((.lt (.var 0 0 255) (.lit 30)), false), ((.lt (.var 0 0 255) (.lit 24)), false), ((.lt (.var 0 0 255) (.lit 18)), false), ((.lt (.var 0 0 255) (.lit 12)), false), ((.lt (.var 0 0 255) (.lit 6)), false)]
def exc169 : List Pc := []
theorem start169_yes : startYes Tryd.prog (tabGlob tabs) lawEv 2130220 lawBody lawFn 17 100000 places169 exc169 (psV lawPs 0) (stTab tabs lawPc169) = true := by kernel_rfl
theorem places169_yes : ∀ p ∈ places169, placeYes Tryd.prog (tabGlob tabs) lawEv 2130220 lawBody lawFn 17 100000 places169 exc169 p = true :=
  (fun p h => by cases h)
theorem places169_paths : ∀ p ∈ places169, pathsOk p.stk :=
  (fun p h => by cases h)
theorem exc169_no : ∀ q ∈ exc169, ∀ i, ¬ Holds i q := by intro q hq; cases hq
def places185 : List Sx.Place := []
def lawPc185 : Pc := [((.eq (.var 4 (.negSucc 9223372036854775807) 9223372036854775807) (.lit 0)), true), ((.lt (.var 4 (.negSucc 9223372036854775807) 9223372036854775807) (.lit 0)), false), ((.eq (.var 0 0 255) (.lit 82)), false), ((.eq (.var 0 0 255) (.lit 81)), false), ((.eq (.var 0 0 255) (.lit 80)), false), ((.eq (.var 0 0 255) (.lit 79)), false), ((.eq (.var 0 0 255) (.lit 78)), false), ((.lt (.var 0 0 255) (.lit 84)), true), ((.lt (.var 0 0 255) (.lit 78)), false), ((.lt (.var 0 0 255) (.lit 72)), false), ((.lt (.var 0 0 255) (.lit 66)), false), ((.lt (.var 0 0 255) (.lit 60)), false), ((.lt (.var 0 0 255) (.lit 54)), false), ((.lt (.var 0 0 255) (.lit 48)), false), ((.lt (.var 0 0 255) (.lit 42)), false), ((.lt (.var 0 0 255) (.lit 36)), false), ((.lt (.var 0 0 255) (.lit 30)), false), ((.lt (.var 0 0 255) (.lit 24)), false), ((.lt (.var 0 0 255) (.lit 18)), false), ((.lt (.var 0 0 255) (.lit 12)), false), ((.lt (.var 0 0 255) (.lit 6)), false)]
def exc185 : List Pc := []
theorem start185_yes : startYes Tryd.prog (tabGlob tabs) lawEv 2130220 lawBody lawFn 17 100000 places185 exc185 (psV lawPs 0) (stTab tabs lawPc185) = true := by kernel_rfl
theorem places185_yes : ∀ p ∈ places185, placeYes Tryd.prog (tabGlob tabs) lawEv 2130220 lawBody lawFn 17 100000 places185 exc185 p = true :=
  (fun p h => by cases h)
theorem places185_paths : ∀ p ∈ places185, pathsOk p.stk :=
  (fun p h => by cases h)
theorem exc185_no : ∀ q ∈ exc185, ∀ i, ¬ Holds i q := by intro q hq; cases hq
def places201 : List Sx.Place := []
def lawPc201 : Pc := [((.eq (.var 4 (.negSucc 9223372036854775807) 9223372036854775807) (.lit 0)), false), ((.lt (.var 4 (.negSucc 9223372036854775807) 9223372036854775807) (.lit 0)), false), ((.eq (.var 0 0 255) (.lit 88)), true), ((.eq (.var 0 0 255) (.lit 87)), false), ((.eq (.var 0 0 255) (.lit 86)), false), ((.eq (.var 0 0 255) (.lit 85)), false), ((.eq (.var 0 0 255) (.lit 84)), false), ((.lt (.var 0 0 255) (.lit 90)), true), ((.lt (.var 0 0 255) (.lit 84)), false), ((.lt (.var 0 0 255) (.lit 78)), false), ((.lt (.var 0 0 255) (.lit 72)), false), ((.lt (.var 0 0 255) (.lit 66)), false), ((.lt (.var 0 0 255) (.lit 60)), false), ((.lt (.var 0 0 255) (.lit 54)), false), ((.lt (.var 0 0 255) (.lit 48)), false), ((.lt (.var 0 0 255) (.lit 42)), false), ((.lt (.var 0 0 255) (.lit 36)), false), ((.lt (.var 0 0 255) (.lit 30)), false), ((.lt (.var 0 0 255) (.lit 24)), false), ((.lt (.var 0 0 255) (.lit 18)), false), ((.lt (.var 0 0 255) (.lit 12)), false), ((.lt (.var 0 0 255) (.lit 6)), false)]
def exc201 : List Pc := []
theorem start201_yes : startYes Tryd.prog (tabGlob tabs) lawEv 2130220 lawBody lawFn 17 100000 places201 exc201 (psV lawPs 0) (stTab tabs lawPc201) = true := by kernel_rfl
theorem places201_yes : ∀ p ∈ places201, placeYes Tryd.prog (tabGlob tabs) lawEv 2130220 lawBody lawFn 17 100000 places201 exc201 p = true :=
  (fun p h => by cases h)
theorem places201_paths : ∀ p ∈ places201, pathsOk p.stk :=
  (fun p h => by cases h)
theorem exc201_no : ∀ q ∈ exc201, ∀ i, ¬ Holds i q := by intro q hq; cases hq
def places217 : List Sx.Place := []
def lawPc217 : Pc := [((.lt (.var 4 (.negSucc 9223372036854775807) 9223372036854775807) (.lit 0)), true), ((.eq (.var 0 0 255) (.lit 96)), true), ((.lt (.var 0 0 255) (.lit 99)), true), ((.lt (.var 0 0 255) (.lit 96)), false), ((.lt (.var 0 0 255) (.lit 90)), false), ((.lt (.var 0 0 255) (.lit 84)), false), ((.lt (.var 0 0 255) (.lit 78)), false), ((.lt (.var 0 0 255) (.lit 72)), false), ((.lt (.var 0 0 255) (.lit 66)), false), ((.lt (.var 0 0 255) (.lit 60)), false), ((.lt (.var 0 0 255) (.lit 54)), false), ((.lt (.var 0 0 255) (.lit 48)), false), ((.lt (.var 0 0 255) (.lit 42)), false), ((.lt (.var 0 0 255) (.lit 36)), false), ((.lt (.var 0 0 255) (.lit 30)), false), ((.lt (.var 0 0 255) (.lit 24)), false), ((.lt (.var 0 0 255) (.lit 18)), false), ((.lt (.var 0 0 255) (.lit 12)), false), ((.lt (.var 0 0 255) (.lit 6)), false)]
def exc217 : List Pc := []
theorem start217_yes : startYes Tryd.prog (tabGlob tabs) lawEv 2130220 lawBody lawFn 17 100000 places217 exc217 (psV lawPs 0) (stTab tabs lawPc217) = true := by kernel_rfl
theorem places217_yes : ∀ p ∈ places217, placeYes Tryd.prog (tabGlob tabs) lawEv 2130220 lawBody lawFn 17 100000 places217 exc217 p = true :=
  (fun p h => by cases h)
theorem places217_paths : ∀ p ∈ places217, pathsOk p.stk :=
  (fun p h => by cases h)
theorem exc217_no : ∀ q ∈ exc217, ∀ i, ¬ Holds i q := by intro q hq; cases hq
end
end Go.Proofs.YtjlfojjkdeflpaaDoor.Sx
