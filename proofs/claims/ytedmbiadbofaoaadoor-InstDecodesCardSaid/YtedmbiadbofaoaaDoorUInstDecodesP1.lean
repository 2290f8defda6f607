/- InstDecodes: a part of its cases. -/
import Derived.Test.YtedmbiadbofaoaaDoorUInstDecodes
namespace Go.Proofs.YtedmbiadbofaoaaDoor.Sx
open Go
noncomputable section
set_option maxRecDepth 100000
def places1 : List Sx.Place := []
def lawPc1 : Pc := [((.eq (.ar .and .u32 (.var 0 0 4294967295) (.lit 127)) (.lit 23)), true), ((.eq (.ar .and .u32 (.var 0 0 4294967295) (.lit 127)) (.lit 55)), false)]
def exc1 : List Pc := []
theorem start1_yes : startYes Tryd.prog (tabGlob tabs) lawEv 300 lawBody lawFn 17 100000 places1 exc1 (psV lawPs 0) (stTab tabs lawPc1) = true := by kernel_rfl
theorem places1_yes : ∀ p ∈ places1, placeYes Tryd.prog (tabGlob tabs) lawEv 300 lawBody lawFn 17 100000 places1 exc1 p = true :=
  (fun p h => by cases h)
theorem places1_paths : ∀ p ∈ places1, pathsOk p.stk :=
  (fun p h => by cases h)
theorem exc1_no : ∀ q ∈ exc1, ∀ i, ¬ Holds i q := by intro q hq; cases hq
def places7 : List Sx.Place := []
def lawPc7 : Pc := [((.eq (.ar .and .u32 (.ar .shr .u32 (.var 0 0 4294967295) (.lit 12)) (.lit 7)) (.lit 3)), true), ((.eq (.ar .and .u32 (.ar .shr .u32 (.var 0 0 4294967295) (.lit 12)) (.lit 7)) (.lit 2)), false), ((.eq (.ar .and .u32 (.ar .shr .u32 (.var 0 0 4294967295) (.lit 12)) (.lit 7)) (.lit 1)), false), ((.eq (.ar .and .u32 (.ar .shr .u32 (.var 0 0 4294967295) (.lit 12)) (.lit 7)) (.lit 0)), false), ((.eq (.ar .and .u32 (.var 0 0 4294967295) (.lit 127)) (.lit 99)), true), ((.eq (.ar .and .u32 (.var 0 0 4294967295) (.lit 127)) (.lit 103)), false), ((.eq (.ar .and .u32 (.var 0 0 4294967295) (.lit 127)) (.lit 111)), false), ((.eq (.ar .and .u32 (.var 0 0 4294967295) (.lit 127)) (.lit 23)), false), ((.eq (.ar .and .u32 (.var 0 0 4294967295) (.lit 127)) (.lit 55)), false)]
def exc7 : List Pc := []
theorem start7_yes : startYes Tryd.prog (tabGlob tabs) lawEv 300 lawBody lawFn 17 100000 places7 exc7 (psV lawPs 0) (stTab tabs lawPc7) = true := by kernel_rfl
theorem places7_yes : ∀ p ∈ places7, placeYes Tryd.prog (tabGlob tabs) lawEv 300 lawBody lawFn 17 100000 places7 exc7 p = true :=
  (fun p h => by cases h)
theorem places7_paths : ∀ p ∈ places7, pathsOk p.stk :=
  (fun p h => by cases h)
theorem exc7_no : ∀ q ∈ exc7, ∀ i, ¬ Holds i q := by intro q hq; cases hq
def places13 : List Sx.Place := []
def lawPc13 : Pc := [((.eq (.ar .and .u32 (.ar .shr .u32 (.var 0 0 4294967295) (.lit 12)) (.lit 7)) (.lit 3)), false), ((.eq (.ar .and .u32 (.ar .shr .u32 (.var 0 0 4294967295) (.lit 12)) (.lit 7)) (.lit 2)), false), ((.eq (.ar .and .u32 (.ar .shr .u32 (.var 0 0 4294967295) (.lit 12)) (.lit 7)) (.lit 1)), false), ((.eq (.ar .and .u32 (.ar .shr .u32 (.var 0 0 4294967295) (.lit 12)) (.lit 7)) (.lit 0)), false), ((.eq (.ar .and .u32 (.var 0 0 4294967295) (.lit 127)) (.lit 3)), true), ((.eq (.ar .and .u32 (.var 0 0 4294967295) (.lit 127)) (.lit 99)), false), ((.eq (.ar .and .u32 (.var 0 0 4294967295) (.lit 127)) (.lit 103)), false), ((.eq (.ar .and .u32 (.var 0 0 4294967295) (.lit 127)) (.lit 111)), false), ((.eq (.ar .and .u32 (.var 0 0 4294967295) (.lit 127)) (.lit 23)), false), ((.eq (.ar .and .u32 (.var 0 0 4294967295) (.lit 127)) (.lit 55)), false)]
def exc13 : List Pc := []
theorem start13_yes : startYes Tryd.prog (tabGlob tabs) lawEv 300 lawBody lawFn 17 100000 places13 exc13 (psV lawPs 0) (stTab tabs lawPc13) = true := by kernel_rfl
theorem places13_yes : ∀ p ∈ places13, placeYes Tryd.prog (tabGlob tabs) lawEv 300 lawBody lawFn 17 100000 places13 exc13 p = true :=
  (fun p h => by cases h)
theorem places13_paths : ∀ p ∈ places13, pathsOk p.stk :=
  (fun p h => by cases h)
theorem exc13_no : ∀ q ∈ exc13, ∀ i, ¬ Holds i q := by intro q hq; cases hq
def places19 : List Sx.Place := []
def lawPc19 : Pc := [((.eq (.ar .and .u32 (.ar .shr .u32 (.var 0 0 4294967295) (.lit 12)) (.lit 7)) (.lit 2)), true), ((.eq (.ar .and .u32 (.ar .shr .u32 (.var 0 0 4294967295) (.lit 12)) (.lit 7)) (.lit 1)), false), ((.eq (.ar .and .u32 (.ar .shr .u32 (.var 0 0 4294967295) (.lit 12)) (.lit 7)) (.lit 0)), false), ((.eq (.ar .and .u32 (.var 0 0 4294967295) (.lit 127)) (.lit 19)), true), ((.eq (.ar .and .u32 (.var 0 0 4294967295) (.lit 127)) (.lit 35)), false), ((.eq (.ar .and .u32 (.var 0 0 4294967295) (.lit 127)) (.lit 3)), false), ((.eq (.ar .and .u32 (.var 0 0 4294967295) (.lit 127)) (.lit 99)), false), ((.eq (.ar .and .u32 (.var 0 0 4294967295) (.lit 127)) (.lit 103)), false), ((.eq (.ar .and .u32 (.var 0 0 4294967295) (.lit 127)) (.lit 111)), false), ((.eq (.ar .and .u32 (.var 0 0 4294967295) (.lit 127)) (.lit 23)), false), ((.eq (.ar .and .u32 (.var 0 0 4294967295) (.lit 127)) (.lit 55)), false)]
def exc19 : List Pc := []
theorem start19_yes : startYes Tryd.prog (tabGlob tabs) lawEv 300 lawBody lawFn 17 100000 places19 exc19 (psV lawPs 0) (stTab tabs lawPc19) = true := by kernel_rfl
theorem places19_yes : ∀ p ∈ places19, placeYes Tryd.prog (tabGlob tabs) lawEv 300 lawBody lawFn 17 100000 places19 exc19 p = true :=
  (fun p h => by cases h)
theorem places19_paths : ∀ p ∈ places19, pathsOk p.stk :=
  (fun p h => by cases h)
theorem exc19_no : ∀ q ∈ exc19, ∀ i, ¬ Holds i q := by intro q hq; cases hq
def places25 : List Sx.Place := []
def lawPc25 : Pc := [((.eq (.ar .shr .u32 (.var 0 0 4294967295) (.lit 25)) (.lit 32)), true), ((.eq (.ar .shr .u32 (.var 0 0 4294967295) (.lit 25)) (.lit 1)), false), ((.eq (.ar .shr .u32 (.var 0 0 4294967295) (.lit 25)) (.lit 0)), false), ((.eq (.ar .and .u32 (.var 0 0 4294967295) (.lit 127)) (.lit 51)), true), ((.eq (.ar .and .u32 (.var 0 0 4294967295) (.lit 127)) (.lit 19)), false), ((.eq (.ar .and .u32 (.var 0 0 4294967295) (.lit 127)) (.lit 35)), false), ((.eq (.ar .and .u32 (.var 0 0 4294967295) (.lit 127)) (.lit 3)), false), ((.eq (.ar .and .u32 (.var 0 0 4294967295) (.lit 127)) (.lit 99)), false), ((.eq (.ar .and .u32 (.var 0 0 4294967295) (.lit 127)) (.lit 103)), false), ((.eq (.ar .and .u32 (.var 0 0 4294967295) (.lit 127)) (.lit 111)), false), ((.eq (.ar .and .u32 (.var 0 0 4294967295) (.lit 127)) (.lit 23)), false), ((.eq (.ar .and .u32 (.var 0 0 4294967295) (.lit 127)) (.lit 55)), false)]
def exc25 : List Pc := []
theorem start25_yes : startYes Tryd.prog (tabGlob tabs) lawEv 300 lawBody lawFn 17 100000 places25 exc25 (psV lawPs 0) (stTab tabs lawPc25) = true := by kernel_rfl
theorem places25_yes : ∀ p ∈ places25, placeYes Tryd.prog (tabGlob tabs) lawEv 300 lawBody lawFn 17 100000 places25 exc25 p = true :=
  (fun p h => by cases h)
theorem places25_paths : ∀ p ∈ places25, pathsOk p.stk :=
  (fun p h => by cases h)
theorem exc25_no : ∀ q ∈ exc25, ∀ i, ¬ Holds i q := by intro q hq; cases hq
def places31 : List Sx.Place := []
def lawPc31 : Pc := [((.eq (.ar .shr .u32 (.var 0 0 4294967295) (.lit 25)) (.lit 1)), true), ((.eq (.ar .shr .u32 (.var 0 0 4294967295) (.lit 25)) (.lit 0)), false), ((.eq (.ar .and .u32 (.var 0 0 4294967295) (.lit 127)) (.lit 59)), true), ((.eq (.ar .and .u32 (.var 0 0 4294967295) (.lit 127)) (.lit 27)), false), ((.eq (.ar .and .u32 (.var 0 0 4294967295) (.lit 127)) (.lit 51)), false), ((.eq (.ar .and .u32 (.var 0 0 4294967295) (.lit 127)) (.lit 19)), false), ((.eq (.ar .and .u32 (.var 0 0 4294967295) (.lit 127)) (.lit 35)), false), ((.eq (.ar .and .u32 (.var 0 0 4294967295) (.lit 127)) (.lit 3)), false), ((.eq (.ar .and .u32 (.var 0 0 4294967295) (.lit 127)) (.lit 99)), false), ((.eq (.ar .and .u32 (.var 0 0 4294967295) (.lit 127)) (.lit 103)), false), ((.eq (.ar .and .u32 (.var 0 0 4294967295) (.lit 127)) (.lit 111)), false), ((.eq (.ar .and .u32 (.var 0 0 4294967295) (.lit 127)) (.lit 23)), false), ((.eq (.ar .and .u32 (.var 0 0 4294967295) (.lit 127)) (.lit 55)), false)]
def exc31 : List Pc := []
theorem start31_yes : startYes Tryd.prog (tabGlob tabs) lawEv 300 lawBody lawFn 17 100000 places31 exc31 (psV lawPs 0) (stTab tabs lawPc31) = true := by kernel_rfl
theorem places31_yes : ∀ p ∈ places31, placeYes Tryd.prog (tabGlob tabs) lawEv 300 lawBody lawFn 17 100000 places31 exc31 p = true :=
  (fun p h => by cases h)
theorem places31_paths : ∀ p ∈ places31, pathsOk p.stk :=
  (fun p h => by cases h)
theorem exc31_no : ∀ q ∈ exc31, ∀ i, ¬ Holds i q := by intro q hq; cases hq
def places37 : List Sx.Place := []
def lawPc37 : Pc := [((.eq (.var 0 0 4294967295) (.lit 270532723)), true), ((.eq (.var 0 0 4294967295) (.lit 1048691)), false), ((.eq (.var 0 0 4294967295) (.lit 115)), false), ((.eq (.ar .and .u32 (.var 0 0 4294967295) (.lit 127)) (.lit 115)), true), ((.eq (.ar .and .u32 (.var 0 0 4294967295) (.lit 127)) (.lit 15)), false), ((.eq (.ar .and .u32 (.var 0 0 4294967295) (.lit 127)) (.lit 59)), false), ((.eq (.ar .and .u32 (.var 0 0 4294967295) (.lit 127)) (.lit 27)), false), ((.eq (.ar .and .u32 (.var 0 0 4294967295) (.lit 127)) (.lit 51)), false), ((.eq (.ar .and .u32 (.var 0 0 4294967295) (.lit 127)) (.lit 19)), false), ((.eq (.ar .and .u32 (.var 0 0 4294967295) (.lit 127)) (.lit 35)), false), ((.eq (.ar .and .u32 (.var 0 0 4294967295) (.lit 127)) (.lit 3)), false), ((.eq (.ar .and .u32 (.var 0 0 4294967295) (.lit 127)) (.lit 99)), false), ((.eq (.ar .and .u32 (.var 0 0 4294967295) (.lit 127)) (.lit 103)), false), ((.eq (.ar .and .u32 (.var 0 0 4294967295) (.lit 127)) (.lit 111)), false), ((.eq (.ar .and .u32 (.var 0 0 4294967295) (.lit 127)) (.lit 23)), false), ((.eq (.ar .and .u32 (.var 0 0 4294967295) (.lit 127)) (.lit 55)), false)]
def exc37 : List Pc := []
theorem start37_yes : startYes Tryd.prog (tabGlob tabs) lawEv 300 lawBody lawFn 17 100000 places37 exc37 (psV lawPs 0) (stTab tabs lawPc37) = true := by kernel_rfl
theorem places37_yes : ∀ p ∈ places37, placeYes Tryd.prog (tabGlob tabs) lawEv 300 lawBody lawFn 17 100000 places37 exc37 p = true :=
  (fun p h => by cases h)
theorem places37_paths : ∀ p ∈ places37, pathsOk p.stk :=
  (fun p h => by cases h)
theorem exc37_no : ∀ q ∈ exc37, ∀ i, ¬ Holds i q := by intro q hq; cases hq
def places43 : List Sx.Place := []
def lawPc43 : Pc := [((.eq (.ar .shr .u32 (.var 0 0 4294967295) (.lit 27)) (.lit 1)), true), ((.eq (.ar .shr .u32 (.var 0 0 4294967295) (.lit 27)) (.lit 0)), false), ((.eq (.ar .and .u32 (.var 0 0 4294967295) (.lit 127)) (.lit 47)), true), ((.eq (.ar .and .u32 (.var 0 0 4294967295) (.lit 127)) (.lit 115)), false), ((.eq (.ar .and .u32 (.var 0 0 4294967295) (.lit 127)) (.lit 15)), false), ((.eq (.ar .and .u32 (.var 0 0 4294967295) (.lit 127)) (.lit 59)), false), ((.eq (.ar .and .u32 (.var 0 0 4294967295) (.lit 127)) (.lit 27)), false), ((.eq (.ar .and .u32 (.var 0 0 4294967295) (.lit 127)) (.lit 51)), false), ((.eq (.ar .and .u32 (.var 0 0 4294967295) (.lit 127)) (.lit 19)), false), ((.eq (.ar .and .u32 (.var 0 0 4294967295) (.lit 127)) (.lit 35)), false), ((.eq (.ar .and .u32 (.var 0 0 4294967295) (.lit 127)) (.lit 3)), false), ((.eq (.ar .and .u32 (.var 0 0 4294967295) (.lit 127)) (.lit 99)), false), ((.eq (.ar .and .u32 (.var 0 0 4294967295) (.lit 127)) (.lit 103)), false), ((.eq (.ar .and .u32 (.var 0 0 4294967295) (.lit 127)) (.lit 111)), false), ((.eq (.ar .and .u32 (.var 0 0 4294967295) (.lit 127)) (.lit 23)), false), ((.eq (.ar .and .u32 (.var 0 0 4294967295) (.lit 127)) (.lit 55)), false)]
def exc43 : List Pc := []
theorem start43_yes : startYes Tryd.prog (tabGlob tabs) lawEv 300 lawBody lawFn 17 100000 places43 exc43 (psV lawPs 0) (stTab tabs lawPc43) = true := by kernel_rfl
theorem places43_yes : ∀ p ∈ places43, placeYes Tryd.prog (tabGlob tabs) lawEv 300 lawBody lawFn 17 100000 places43 exc43 p = true :=
  (fun p h => by cases h)
theorem places43_paths : ∀ p ∈ places43, pathsOk p.stk :=
  (fun p h => by cases h)
theorem exc43_no : ∀ q ∈ exc43, ∀ i, ¬ Holds i q := by intro q hq; cases hq
def places49 : List Sx.Place := []
def lawPc49 : Pc := [((.eq (.ar .shr .u32 (.var 0 0 4294967295) (.lit 27)) (.lit 7)), true), ((.eq (.ar .shr .u32 (.var 0 0 4294967295) (.lit 27)) (.lit 6)), false), ((.eq (.ar .shr .u32 (.var 0 0 4294967295) (.lit 27)) (.lit 5)), false), ((.eq (.ar .shr .u32 (.var 0 0 4294967295) (.lit 27)) (.lit 4)), false), ((.eq (.ar .shr .u32 (.var 0 0 4294967295) (.lit 27)) (.lit 3)), false), ((.eq (.ar .shr .u32 (.var 0 0 4294967295) (.lit 27)) (.lit 2)), false), ((.eq (.ar .shr .u32 (.var 0 0 4294967295) (.lit 27)) (.lit 1)), false), ((.eq (.ar .shr .u32 (.var 0 0 4294967295) (.lit 27)) (.lit 0)), false), ((.eq (.ar .and .u32 (.var 0 0 4294967295) (.lit 127)) (.lit 47)), true), ((.eq (.ar .and .u32 (.var 0 0 4294967295) (.lit 127)) (.lit 115)), false), ((.eq (.ar .and .u32 (.var 0 0 4294967295) (.lit 127)) (.lit 15)), false), ((.eq (.ar .and .u32 (.var 0 0 4294967295) (.lit 127)) (.lit 59)), false), ((.eq (.ar .and .u32 (.var 0 0 4294967295) (.lit 127)) (.lit 27)), false), ((.eq (.ar .and .u32 (.var 0 0 4294967295) (.lit 127)) (.lit 51)), false), ((.eq (.ar .and .u32 (.var 0 0 4294967295) (.lit 127)) (.lit 19)), false), ((.eq (.ar .and .u32 (.var 0 0 4294967295) (.lit 127)) (.lit 35)), false), ((.eq (.ar .and .u32 (.var 0 0 4294967295) (.lit 127)) (.lit 3)), false), ((.eq (.ar .and .u32 (.var 0 0 4294967295) (.lit 127)) (.lit 99)), false), ((.eq (.ar .and .u32 (.var 0 0 4294967295) (.lit 127)) (.lit 103)), false), ((.eq (.ar .and .u32 (.var 0 0 4294967295) (.lit 127)) (.lit 111)), false), ((.eq (.ar .and .u32 (.var 0 0 4294967295) (.lit 127)) (.lit 23)), false), ((.eq (.ar .and .u32 (.var 0 0 4294967295) (.lit 127)) (.lit 55)), false)]
def exc49 : List Pc := []
theorem start49_yes : startYes Tryd.prog (tabGlob tabs) lawEv 300 lawBody lawFn 17 100000 places49 exc49 (psV lawPs 0) (stTab tabs lawPc49) = true := by kernel_rfl
theorem places49_yes : ∀ p ∈ places49, placeYes Tryd.prog (tabGlob tabs) lawEv 300 lawBody lawFn 17 100000 places49 exc49 p = true :=
  (fun p h => by cases h)
theorem places49_paths : ∀ p ∈ places49, pathsOk p.stk :=
  (fun p h => by cases h)
theorem exc49_no : ∀ q ∈ exc49, ∀ i, ¬ Holds i q := by intro q hq; cases hq
def places55 : List Sx.Place := []
def lawPc55 : Pc := [((.eq (.ar .shr .u32 (.var 0 0 4294967295) (.lit 27)) (.lit 13)), true), ((.eq (.ar .shr .u32 (.var 0 0 4294967295) (.lit 27)) (.lit 12)), false), ((.eq (.ar .shr .u32 (.var 0 0 4294967295) (.lit 27)) (.lit 11)), false), ((.eq (.ar .shr .u32 (.var 0 0 4294967295) (.lit 27)) (.lit 10)), false), ((.eq (.ar .shr .u32 (.var 0 0 4294967295) (.lit 27)) (.lit 9)), false), ((.eq (.ar .shr .u32 (.var 0 0 4294967295) (.lit 27)) (.lit 8)), false), ((.eq (.ar .shr .u32 (.var 0 0 4294967295) (.lit 27)) (.lit 7)), false), ((.eq (.ar .shr .u32 (.var 0 0 4294967295) (.lit 27)) (.lit 6)), false), ((.eq (.ar .shr .u32 (.var 0 0 4294967295) (.lit 27)) (.lit 5)), false), ((.eq (.ar .shr .u32 (.var 0 0 4294967295) (.lit 27)) (.lit 4)), false), ((.eq (.ar .shr .u32 (.var 0 0 4294967295) (.lit 27)) (.lit 3)), false), ((.eq (.ar .shr .u32 (.var 0 0 4294967295) (.lit 27)) (.lit 2)), false), ((.eq (.ar .shr .u32 (.var 0 0 4294967295) (.lit 27)) (.lit 1)), false), ((.eq (.ar .shr .u32 (.var 0 0 4294967295) (.lit 27)) (.lit 0)), false), ((.eq (.ar .and .u32 (.var 0 0 4294967295) (.lit 127)) (.lit 47)), true), ((.eq (.ar .and .u32 (.var 0 0 4294967295) (.lit 127)) (.lit 115)), false), ((.eq (.ar .and .u32 (.var 0 0 4294967295) (.lit 127)) (.lit 15)), false), ((.eq (.ar .and .u32 (.var 0 0 4294967295) (.lit 127)) (.lit 59)), false), ((.eq (.ar .and .u32 (.var 0 0 4294967295) (.lit 127)) (.lit 27)), false), ((.eq (.ar .and .u32 (.var 0 0 4294967295) (.lit 127)) (.lit 51)), false), ((.eq (.ar .and .u32 (.var 0 0 4294967295) (.lit 127)) (.lit 19)), false), ((.eq (.ar .and .u32 (.var 0 0 4294967295) (.lit 127)) (.lit 35)), false), ((.eq (.ar .and .u32 (.var 0 0 4294967295) (.lit 127)) (.lit 3)), false), ((.eq (.ar .and .u32 (.var 0 0 4294967295) (.lit 127)) (.lit 99)), false), ((.eq (.ar .and .u32 (.var 0 0 4294967295) (.lit 127)) (.lit 103)), false), ((.eq (.ar .and .u32 (.var 0 0 4294967295) (.lit 127)) (.lit 111)), false), ((.eq (.ar .and .u32 (.var 0 0 4294967295) (.lit 127)) (.lit 23)), false), ((.eq (.ar .and .u32 (.var 0 0 4294967295) (.lit 127)) (.lit 55)), false)]
def exc55 : List Pc := []
theorem start55_yes : startYes Tryd.prog (tabGlob tabs) lawEv 300 lawBody lawFn 17 100000 places55 exc55 (psV lawPs 0) (stTab tabs lawPc55) = true := by kernel_rfl
theorem places55_yes : ∀ p ∈ places55, placeYes Tryd.prog (tabGlob tabs) lawEv 300 lawBody lawFn 17 100000 places55 exc55 p = true :=
  (fun p h => by cases h)
theorem places55_paths : ∀ p ∈ places55, pathsOk p.stk :=
  (fun p h => by cases h)
theorem exc55_no : ∀ q ∈ exc55, ∀ i, ¬ Holds i q := by intro q hq; cases hq
def places61 : List Sx.Place := []
def lawPc61 : Pc := [((.eq (.ar .shr .u32 (.var 0 0 4294967295) (.lit 27)) (.lit 19)), true), ((.eq (.ar .shr .u32 (.var 0 0 4294967295) (.lit 27)) (.lit 18)), false), ((.eq (.ar .shr .u32 (.var 0 0 4294967295) (.lit 27)) (.lit 17)), false), ((.eq (.ar .shr .u32 (.var 0 0 4294967295) (.lit 27)) (.lit 16)), false), ((.eq (.ar .shr .u32 (.var 0 0 4294967295) (.lit 27)) (.lit 15)), false), ((.eq (.ar .shr .u32 (.var 0 0 4294967295) (.lit 27)) (.lit 14)), false), ((.eq (.ar .shr .u32 (.var 0 0 4294967295) (.lit 27)) (.lit 13)), false), ((.eq (.ar .shr .u32 (.var 0 0 4294967295) (.lit 27)) (.lit 12)), false), ((.eq (.ar .shr .u32 (.var 0 0 4294967295) (.lit 27)) (.lit 11)), false), ((.eq (.ar .shr .u32 (.var 0 0 4294967295) (.lit 27)) (.lit 10)), false), ((.eq (.ar .shr .u32 (.var 0 0 4294967295) (.lit 27)) (.lit 9)), false), ((.eq (.ar .shr .u32 (.var 0 0 4294967295) (.lit 27)) (.lit 8)), false), ((.eq (.ar .shr .u32 (.var 0 0 4294967295) (.lit 27)) (.lit 7)), false), ((.eq (.ar .shr .u32 (.var 0 0 4294967295) (.lit 27)) (.lit 6)), false), ((.eq (.ar .shr .u32 (.var 0 0 4294967295) (.lit 27)) (.lit 5)), false), ((.eq (.ar .shr .u32 (.var 0 0 4294967295) (.lit 27)) (.lit 4)), false), ((.eq (.ar .shr .u32 (.var 0 0 4294967295) (.lit 27)) (.lit 3)), false), ((.eq (.ar .shr .u32 (.var 0 0 4294967295) (.lit 27)) (.lit 2)), false), ((.eq (.ar .shr .u32 (.var 0 0 4294967295) (.lit 27)) (.lit 1)), false), ((.eq (.ar .shr .u32 (.var 0 0 4294967295) (.lit 27)) (.lit 0)), false), ((.eq (.ar .and .u32 (.var 0 0 4294967295) (.lit 127)) (.lit 47)), true), ((.eq (.ar .and .u32 (.var 0 0 4294967295) (.lit 127)) (.lit 115)), false), ((.eq (.ar .and .u32 (.var 0 0 4294967295) (.lit 127)) (.lit 15)), false), ((.eq (.ar .and .u32 (.var 0 0 4294967295) (.lit 127)) (.lit 59)), false), ((.eq (.ar .and .u32 (.var 0 0 4294967295) (.lit 127)) (.lit 27)), false), ((.eq (.ar .and .u32 (.var 0 0 4294967295) (.lit 127)) (.lit 51)), false), ((.eq (.ar .and .u32 (.var 0 0 4294967295) (.lit 127)) (.lit 19)), false), ((.eq (.ar .and .u32 (.var 0 0 4294967295) (.lit 127)) (.lit 35)), false), ((.eq (.ar .and .u32 (.var 0 0 4294967295) (.lit 127)) (.lit 3)), false), ((.eq (.ar .and .u32 (.var 0 0 4294967295) (.lit 127)) (.lit 99)), false), ((.eq (.ar .and .u32 (.var 0 0 4294967295) (.lit 127)) (.lit 103)), false), ((.eq (.ar .and .u32 (.var 0 0 4294967295) (.lit 127)) (.lit 111)), false), ((.eq (.ar .and .u32 (.var 0 0 4294967295) (.lit 127)) (.lit 23)), false), ((.eq (.ar .and .u32 (.var 0 0 4294967295) (.lit 127)) (.lit 55)), false)]
def exc61 : List Pc := []
theorem start61_yes : startYes Tryd.prog (tabGlob tabs) lawEv 300 lawBody lawFn 17 100000 places61 exc61 (psV lawPs 0) (stTab tabs lawPc61) = true := by kernel_rfl
theorem places61_yes : ∀ p ∈ places61, placeYes Tryd.prog (tabGlob tabs) lawEv 300 lawBody lawFn 17 100000 places61 exc61 p = true :=
  (fun p h => by cases h)
theorem places61_paths : ∀ p ∈ places61, pathsOk p.stk :=
  (fun p h => by cases h)
theorem exc61_no : ∀ q ∈ exc61, ∀ i, ¬ Holds i q := by intro q hq; cases hq
def places67 : List Sx.Place := []
def lawPc67 : Pc := [((.eq (.ar .shr .u32 (.var 0 0 4294967295) (.lit 27)) (.lit 25)), true), ((.eq (.ar .shr .u32 (.var 0 0 4294967295) (.lit 27)) (.lit 24)), false), ((.eq (.ar .shr .u32 (.var 0 0 4294967295) (.lit 27)) (.lit 23)), false), ((.eq (.ar .shr .u32 (.var 0 0 4294967295) (.lit 27)) (.lit 22)), false), ((.eq (.ar .shr .u32 (.var 0 0 4294967295) (.lit 27)) (.lit 21)), false), ((.eq (.ar .shr .u32 (.var 0 0 4294967295) (.lit 27)) (.lit 20)), false), ((.eq (.ar .shr .u32 (.var 0 0 4294967295) (.lit 27)) (.lit 19)), false), ((.eq (.ar .shr .u32 (.var 0 0 4294967295) (.lit 27)) (.lit 18)), false), ((.eq (.ar .shr .u32 (.var 0 0 4294967295) (.lit 27)) (.lit 17)), false), ((.eq (.ar .shr .u32 (.var 0 0 4294967295) (.lit 27)) (.lit 16)), false), ((.eq (.ar .shr .u32 (.var 0 0 4294967295) (.lit 27)) (.lit 15)), false), ((.eq (.ar .shr .u32 (.var 0 0 4294967295) (.lit 27)) (.lit 14)), false), ((.eq (.ar .shr .u32 (.var 0 0 4294967295) (.lit 27)) (.lit 13)), false), ((.eq (.ar .shr .u32 (.var 0 0 4294967295) (.lit 27)) (.lit 12)), false), ((.eq (.ar .shr .u32 (.var 0 0 4294967295) (.lit 27)) (.lit 11)), false), ((.eq (.ar .shr .u32 (.var 0 0 4294967295) (.lit 27)) (.lit 10)), false), ((.eq (.ar .shr .u32 (.var 0 0 4294967295) (.lit 27)) (.lit 9)), false), ((.eq (.ar .shr .u32 (.var 0 0 4294967295) (.lit 27)) (.lit 8)), false), ((.eq (.ar .shr .u32 (.var 0 0 4294967295) (.lit 27)) (.lit 7)), false), ((.eq (.ar .shr .u32 (.var 0 0 4294967295) (.lit 27)) (.lit 6)), false), ((.eq (.ar .shr .u32 (.var 0 0 4294967295) (.lit 27)) (.lit 5)), false), ((.eq (.ar .shr .u32 (.var 0 0 4294967295) (.lit 27)) (.lit 4)), false), ((.eq (.ar .shr .u32 (.var 0 0 4294967295) (.lit 27)) (.lit 3)), false), ((.eq (.ar .shr .u32 (.var 0 0 4294967295) (.lit 27)) (.lit 2)), false), ((.eq (.ar .shr .u32 (.var 0 0 4294967295) (.lit 27)) (.lit 1)), false), ((.eq (.ar .shr .u32 (.var 0 0 4294967295) (.lit 27)) (.lit 0)), false), ((.eq (.ar .and .u32 (.var 0 0 4294967295) (.lit 127)) (.lit 47)), true), ((.eq (.ar .and .u32 (.var 0 0 4294967295) (.lit 127)) (.lit 115)), false), ((.eq (.ar .and .u32 (.var 0 0 4294967295) (.lit 127)) (.lit 15)), false), ((.eq (.ar .and .u32 (.var 0 0 4294967295) (.lit 127)) (.lit 59)), false), ((.eq (.ar .and .u32 (.var 0 0 4294967295) (.lit 127)) (.lit 27)), false), ((.eq (.ar .and .u32 (.var 0 0 4294967295) (.lit 127)) (.lit 51)), false), ((.eq (.ar .and .u32 (.var 0 0 4294967295) (.lit 127)) (.lit 19)), false), ((.eq (.ar .and .u32 (.var 0 0 4294967295) (.lit 127)) (.lit 35)), false), ((.eq (.ar .and .u32 (.var 0 0 4294967295) (.lit 127)) (.lit 3)), false), ((.eq (.ar .and .u32 (.var 0 0 4294967295) (.lit 127)) (.lit 99)), false), ((.eq (.ar .and .u32 (.var 0 0 4294967295) (.lit 127)) (.lit 103)), false), ((.eq (.ar .and .u32 (.var 0 0 4294967295) (.lit 127)) (.lit 111)), false), ((.eq (.ar .and .u32 (.var 0 0 4294967295) (.lit 127)) (.lit 23)), false), ((.eq (.ar .and .u32 (.var 0 0 4294967295) (.lit 127)) (.lit 55)), false)]
def exc67 : List Pc := []
theorem start67_yes : startYes Tryd.prog (tabGlob tabs) lawEv 300 lawBody lawFn 17 100000 places67 exc67 (psV lawPs 0) (stTab tabs lawPc67) = true := by kernel_rfl
theorem places67_yes : ∀ p ∈ places67, placeYes Tryd.prog (tabGlob tabs) lawEv 300 lawBody lawFn 17 100000 places67 exc67 p = true :=
  (fun p h => by cases h)
theorem places67_paths : ∀ p ∈ places67, pathsOk p.stk :=
  (fun p h => by cases h)
theorem exc67_no : ∀ q ∈ exc67, ∀ i, ¬ Holds i q := by intro q hq; cases hq
end
end Go.Proofs.YtedmbiadbofaoaaDoor.Sx
