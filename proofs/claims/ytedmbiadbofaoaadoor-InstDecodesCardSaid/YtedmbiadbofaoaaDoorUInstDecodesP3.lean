/- InstDecodes: a part of its cases. -/
import Derived.Test.YtedmbiadbofaoaaDoorUInstDecodes
namespace Go.Proofs.YtedmbiadbofaoaaDoor.Sx
open Go
noncomputable section
set_option maxRecDepth 100000
def places3 : List Sx.Place := []
def lawPc3 : Pc := [((.eq (.ar .and .u32 (.var 0 0 4294967295) (.lit 127)) (.lit 103)), true), ((.eq (.ar .and .u32 (.var 0 0 4294967295) (.lit 127)) (.lit 111)), false), ((.eq (.ar .and .u32 (.var 0 0 4294967295) (.lit 127)) (.lit 23)), false), ((.eq (.ar .and .u32 (.var 0 0 4294967295) (.lit 127)) (.lit 55)), false)]
def exc3 : List Pc := []
theorem start3_yes : startYes Tryd.prog (tabGlob tabs) lawEv 300 lawBody lawFn 17 100000 places3 exc3 (psV lawPs 0) (stTab tabs lawPc3) = true := by kernel_rfl
theorem places3_yes : ∀ p ∈ places3, placeYes Tryd.prog (tabGlob tabs) lawEv 300 lawBody lawFn 17 100000 places3 exc3 p = true :=
  (fun p h => by cases h)
theorem places3_paths : ∀ p ∈ places3, pathsOk p.stk :=
  (fun p h => by cases h)
theorem exc3_no : ∀ q ∈ exc3, ∀ i, ¬ Holds i q := by intro q hq; cases hq
def places9 : List Sx.Place := []
def lawPc9 : Pc := [((.eq (.ar .and .u32 (.ar .shr .u32 (.var 0 0 4294967295) (.lit 12)) (.lit 7)) (.lit 0)), true), ((.eq (.ar .and .u32 (.var 0 0 4294967295) (.lit 127)) (.lit 3)), true), ((.eq (.ar .and .u32 (.var 0 0 4294967295) (.lit 127)) (.lit 99)), false), ((.eq (.ar .and .u32 (.var 0 0 4294967295) (.lit 127)) (.lit 103)), false), ((.eq (.ar .and .u32 (.var 0 0 4294967295) (.lit 127)) (.lit 111)), false), ((.eq (.ar .and .u32 (.var 0 0 4294967295) (.lit 127)) (.lit 23)), false), ((.eq (.ar .and .u32 (.var 0 0 4294967295) (.lit 127)) (.lit 55)), false)]
def exc9 : List Pc := []
theorem start9_yes : startYes Tryd.prog (tabGlob tabs) lawEv 300 lawBody lawFn 17 100000 places9 exc9 (psV lawPs 0) (stTab tabs lawPc9) = true := by kernel_rfl
theorem places9_yes : ∀ p ∈ places9, placeYes Tryd.prog (tabGlob tabs) lawEv 300 lawBody lawFn 17 100000 places9 exc9 p = true :=
  (fun p h => by cases h)
theorem places9_paths : ∀ p ∈ places9, pathsOk p.stk :=
  (fun p h => by cases h)
theorem exc9_no : ∀ q ∈ exc9, ∀ i, ¬ Holds i q := by intro q hq; cases hq
def places15 : List Sx.Place := []
def lawPc15 : Pc := [((.eq (.ar .and .u32 (.ar .shr .u32 (.var 0 0 4294967295) (.lit 12)) (.lit 7)) (.lit 1)), true), ((.eq (.ar .and .u32 (.ar .shr .u32 (.var 0 0 4294967295) (.lit 12)) (.lit 7)) (.lit 0)), false), ((.eq (.ar .and .u32 (.var 0 0 4294967295) (.lit 127)) (.lit 35)), true), ((.eq (.ar .and .u32 (.var 0 0 4294967295) (.lit 127)) (.lit 3)), false), ((.eq (.ar .and .u32 (.var 0 0 4294967295) (.lit 127)) (.lit 99)), false), ((.eq (.ar .and .u32 (.var 0 0 4294967295) (.lit 127)) (.lit 103)), false), ((.eq (.ar .and .u32 (.var 0 0 4294967295) (.lit 127)) (.lit 111)), false), ((.eq (.ar .and .u32 (.var 0 0 4294967295) (.lit 127)) (.lit 23)), false), ((.eq (.ar .and .u32 (.var 0 0 4294967295) (.lit 127)) (.lit 55)), false)]
def exc15 : List Pc := []
theorem start15_yes : startYes Tryd.prog (tabGlob tabs) lawEv 300 lawBody lawFn 17 100000 places15 exc15 (psV lawPs 0) (stTab tabs lawPc15) = true := by kernel_rfl
theorem places15_yes : ∀ p ∈ places15, placeYes Tryd.prog (tabGlob tabs) lawEv 300 lawBody lawFn 17 100000 places15 exc15 p = true :=
  (fun p h => by cases h)
theorem places15_paths : ∀ p ∈ places15, pathsOk p.stk :=
  (fun p h => by cases h)
theorem exc15_no : ∀ q ∈ exc15, ∀ i, ¬ Holds i q := by intro q hq; cases hq
def places21 : List Sx.Place := []
def lawPc21 : Pc := [((.eq (.ar .and .u32 (.ar .shr .u32 (.var 0 0 4294967295) (.lit 12)) (.lit 7)) (.lit 4)), true), ((.eq (.ar .and .u32 (.ar .shr .u32 (.var 0 0 4294967295) (.lit 12)) (.lit 7)) (.lit 3)), false), ((.eq (.ar .and .u32 (.ar .shr .u32 (.var 0 0 4294967295) (.lit 12)) (.lit 7)) (.lit 2)), false), ((.eq (.ar .and .u32 (.ar .shr .u32 (.var 0 0 4294967295) (.lit 12)) (.lit 7)) (.lit 1)), false), ((.eq (.ar .and .u32 (.ar .shr .u32 (.var 0 0 4294967295) (.lit 12)) (.lit 7)) (.lit 0)), false), ((.eq (.ar .and .u32 (.var 0 0 4294967295) (.lit 127)) (.lit 19)), true), ((.eq (.ar .and .u32 (.var 0 0 4294967295) (.lit 127)) (.lit 35)), false), ((.eq (.ar .and .u32 (.var 0 0 4294967295) (.lit 127)) (.lit 3)), false), ((.eq (.ar .and .u32 (.var 0 0 4294967295) (.lit 127)) (.lit 99)), false), ((.eq (.ar .and .u32 (.var 0 0 4294967295) (.lit 127)) (.lit 103)), false), ((.eq (.ar .and .u32 (.var 0 0 4294967295) (.lit 127)) (.lit 111)), false), ((.eq (.ar .and .u32 (.var 0 0 4294967295) (.lit 127)) (.lit 23)), false), ((.eq (.ar .and .u32 (.var 0 0 4294967295) (.lit 127)) (.lit 55)), false)]
def exc21 : List Pc := []
theorem start21_yes : startYes Tryd.prog (tabGlob tabs) lawEv 300 lawBody lawFn 17 100000 places21 exc21 (psV lawPs 0) (stTab tabs lawPc21) = true := by kernel_rfl
theorem places21_yes : ∀ p ∈ places21, placeYes Tryd.prog (tabGlob tabs) lawEv 300 lawBody lawFn 17 100000 places21 exc21 p = true :=
  (fun p h => by cases h)
theorem places21_paths : ∀ p ∈ places21, pathsOk p.stk :=
  (fun p h => by cases h)
theorem exc21_no : ∀ q ∈ exc21, ∀ i, ¬ Holds i q := by intro q hq; cases hq
def places27 : List Sx.Place := []
def lawPc27 : Pc := [((.eq (.ar .and .u32 (.ar .shr .u32 (.var 0 0 4294967295) (.lit 12)) (.lit 7)) (.lit 0)), true), ((.eq (.ar .and .u32 (.var 0 0 4294967295) (.lit 127)) (.lit 27)), true), ((.eq (.ar .and .u32 (.var 0 0 4294967295) (.lit 127)) (.lit 51)), false), ((.eq (.ar .and .u32 (.var 0 0 4294967295) (.lit 127)) (.lit 19)), false), ((.eq (.ar .and .u32 (.var 0 0 4294967295) (.lit 127)) (.lit 35)), false), ((.eq (.ar .and .u32 (.var 0 0 4294967295) (.lit 127)) (.lit 3)), false), ((.eq (.ar .and .u32 (.var 0 0 4294967295) (.lit 127)) (.lit 99)), false), ((.eq (.ar .and .u32 (.var 0 0 4294967295) (.lit 127)) (.lit 103)), false), ((.eq (.ar .and .u32 (.var 0 0 4294967295) (.lit 127)) (.lit 111)), false), ((.eq (.ar .and .u32 (.var 0 0 4294967295) (.lit 127)) (.lit 23)), false), ((.eq (.ar .and .u32 (.var 0 0 4294967295) (.lit 127)) (.lit 55)), false)]
def exc27 : List Pc := []
theorem start27_yes : startYes Tryd.prog (tabGlob tabs) lawEv 300 lawBody lawFn 17 100000 places27 exc27 (psV lawPs 0) (stTab tabs lawPc27) = true := by kernel_rfl
theorem places27_yes : ∀ p ∈ places27, placeYes Tryd.prog (tabGlob tabs) lawEv 300 lawBody lawFn 17 100000 places27 exc27 p = true :=
  (fun p h => by cases h)
theorem places27_paths : ∀ p ∈ places27, pathsOk p.stk :=
  (fun p h => by cases h)
theorem exc27_no : ∀ q ∈ exc27, ∀ i, ¬ Holds i q := by intro q hq; cases hq
def places33 : List Sx.Place := []
def lawPc33 : Pc := [((.eq (.ar .shr .u32 (.var 0 0 4294967295) (.lit 25)) (.lit 32)), false), ((.eq (.ar .shr .u32 (.var 0 0 4294967295) (.lit 25)) (.lit 1)), false), ((.eq (.ar .shr .u32 (.var 0 0 4294967295) (.lit 25)) (.lit 0)), false), ((.eq (.ar .and .u32 (.var 0 0 4294967295) (.lit 127)) (.lit 59)), true), ((.eq (.ar .and .u32 (.var 0 0 4294967295) (.lit 127)) (.lit 27)), false), ((.eq (.ar .and .u32 (.var 0 0 4294967295) (.lit 127)) (.lit 51)), false), ((.eq (.ar .and .u32 (.var 0 0 4294967295) (.lit 127)) (.lit 19)), false), ((.eq (.ar .and .u32 (.var 0 0 4294967295) (.lit 127)) (.lit 35)), false), ((.eq (.ar .and .u32 (.var 0 0 4294967295) (.lit 127)) (.lit 3)), false), ((.eq (.ar .and .u32 (.var 0 0 4294967295) (.lit 127)) (.lit 99)), false), ((.eq (.ar .and .u32 (.var 0 0 4294967295) (.lit 127)) (.lit 103)), false), ((.eq (.ar .and .u32 (.var 0 0 4294967295) (.lit 127)) (.lit 111)), false), ((.eq (.ar .and .u32 (.var 0 0 4294967295) (.lit 127)) (.lit 23)), false), ((.eq (.ar .and .u32 (.var 0 0 4294967295) (.lit 127)) (.lit 55)), false)]
def exc33 : List Pc := []
theorem start33_yes : startYes Tryd.prog (tabGlob tabs) lawEv 300 lawBody lawFn 17 100000 places33 exc33 (psV lawPs 0) (stTab tabs lawPc33) = true := by kernel_rfl
theorem places33_yes : ∀ p ∈ places33, placeYes Tryd.prog (tabGlob tabs) lawEv 300 lawBody lawFn 17 100000 places33 exc33 p = true :=
  (fun p h => by cases h)
theorem places33_paths : ∀ p ∈ places33, pathsOk p.stk :=
  (fun p h => by cases h)
theorem exc33_no : ∀ q ∈ exc33, ∀ i, ¬ Holds i q := by intro q hq; cases hq
def places39 : List Sx.Place := []
def lawPc39 : Pc := [((.eq (.var 0 0 4294967295) (.lit 807403635)), true), ((.eq (.var 0 0 4294967295) (.lit 273678451)), false), ((.eq (.var 0 0 4294967295) (.lit 270532723)), false), ((.eq (.var 0 0 4294967295) (.lit 1048691)), false), ((.eq (.var 0 0 4294967295) (.lit 115)), false), ((.eq (.ar .and .u32 (.var 0 0 4294967295) (.lit 127)) (.lit 115)), true), ((.eq (.ar .and .u32 (.var 0 0 4294967295) (.lit 127)) (.lit 15)), false), ((.eq (.ar .and .u32 (.var 0 0 4294967295) (.lit 127)) (.lit 59)), false), ((.eq (.ar .and .u32 (.var 0 0 4294967295) (.lit 127)) (.lit 27)), false), ((.eq (.ar .and .u32 (.var 0 0 4294967295) (.lit 127)) (.lit 51)), false), ((.eq (.ar .and .u32 (.var 0 0 4294967295) (.lit 127)) (.lit 19)), false), ((.eq (.ar .and .u32 (.var 0 0 4294967295) (.lit 127)) (.lit 35)), false), ((.eq (.ar .and .u32 (.var 0 0 4294967295) (.lit 127)) (.lit 3)), false), ((.eq (.ar .and .u32 (.var 0 0 4294967295) (.lit 127)) (.lit 99)), false), ((.eq (.ar .and .u32 (.var 0 0 4294967295) (.lit 127)) (.lit 103)), false), ((.eq (.ar .and .u32 (.var 0 0 4294967295) (.lit 127)) (.lit 111)), false), ((.eq (.ar .and .u32 (.var 0 0 4294967295) (.lit 127)) (.lit 23)), false), ((.eq (.ar .and .u32 (.var 0 0 4294967295) (.lit 127)) (.lit 55)), false)]
def exc39 : List Pc := []
theorem start39_yes : startYes Tryd.prog (tabGlob tabs) lawEv 300 lawBody lawFn 17 100000 places39 exc39 (psV lawPs 0) (stTab tabs lawPc39) = true := by kernel_rfl
theorem places39_yes : ∀ p ∈ places39, placeYes Tryd.prog (tabGlob tabs) lawEv 300 lawBody lawFn 17 100000 places39 exc39 p = true :=
  (fun p h => by cases h)
theorem places39_paths : ∀ p ∈ places39, pathsOk p.stk :=
  (fun p h => by cases h)
theorem exc39_no : ∀ q ∈ exc39, ∀ i, ¬ Holds i q := by intro q hq; cases hq
def places45 : List Sx.Place := []
def lawPc45 : Pc := [((.eq (.ar .shr .u32 (.var 0 0 4294967295) (.lit 27)) (.lit 3)), true), ((.eq (.ar .shr .u32 (.var 0 0 4294967295) (.lit 27)) (.lit 2)), false), ((.eq (.ar .shr .u32 (.var 0 0 4294967295) (.lit 27)) (.lit 1)), false), ((.eq (.ar .shr .u32 (.var 0 0 4294967295) (.lit 27)) (.lit 0)), false), ((.eq (.ar .and .u32 (.var 0 0 4294967295) (.lit 127)) (.lit 47)), true), ((.eq (.ar .and .u32 (.var 0 0 4294967295) (.lit 127)) (.lit 115)), false), ((.eq (.ar .and .u32 (.var 0 0 4294967295) (.lit 127)) (.lit 15)), false), ((.eq (.ar .and .u32 (.var 0 0 4294967295) (.lit 127)) (.lit 59)), false), ((.eq (.ar .and .u32 (.var 0 0 4294967295) (.lit 127)) (.lit 27)), false), ((.eq (.ar .and .u32 (.var 0 0 4294967295) (.lit 127)) (.lit 51)), false), ((.eq (.ar .and .u32 (.var 0 0 4294967295) (.lit 127)) (.lit 19)), false), ((.eq (.ar .and .u32 (.var 0 0 4294967295) (.lit 127)) (.lit 35)), false), ((.eq (.ar .and .u32 (.var 0 0 4294967295) (.lit 127)) (.lit 3)), false), ((.eq (.ar .and .u32 (.var 0 0 4294967295) (.lit 127)) (.lit 99)), false), ((.eq (.ar .and .u32 (.var 0 0 4294967295) (.lit 127)) (.lit 103)), false), ((.eq (.ar .and .u32 (.var 0 0 4294967295) (.lit 127)) (.lit 111)), false), ((.eq (.ar .and .u32 (.var 0 0 4294967295) (.lit 127)) (.lit 23)), false), ((.eq (.ar .and .u32 (.var 0 0 4294967295) (.lit 127)) (.lit 55)), false)]
def exc45 : List Pc := []
theorem start45_yes : startYes Tryd.prog (tabGlob tabs) lawEv 300 lawBody lawFn 17 100000 places45 exc45 (psV lawPs 0) (stTab tabs lawPc45) = true := by kernel_rfl
theorem places45_yes : ∀ p ∈ places45, placeYes Tryd.prog (tabGlob tabs) lawEv 300 lawBody lawFn 17 100000 places45 exc45 p = true :=
  (fun p h => by cases h)
theorem places45_paths : ∀ p ∈ places45, pathsOk p.stk :=
  (fun p h => by cases h)
theorem exc45_no : ∀ q ∈ exc45, ∀ i, ¬ Holds i q := by intro q hq; cases hq
def places51 : List Sx.Place := []
def lawPc51 : Pc := [((.eq (.ar .shr .u32 (.var 0 0 4294967295) (.lit 27)) (.lit 9)), true), ((.eq (.ar .shr .u32 (.var 0 0 4294967295) (.lit 27)) (.lit 8)), false), ((.eq (.ar .shr .u32 (.var 0 0 4294967295) (.lit 27)) (.lit 7)), false), ((.eq (.ar .shr .u32 (.var 0 0 4294967295) (.lit 27)) (.lit 6)), false), ((.eq (.ar .shr .u32 (.var 0 0 4294967295) (.lit 27)) (.lit 5)), false), ((.eq (.ar .shr .u32 (.var 0 0 4294967295) (.lit 27)) (.lit 4)), false), ((.eq (.ar .shr .u32 (.var 0 0 4294967295) (.lit 27)) (.lit 3)), false), ((.eq (.ar .shr .u32 (.var 0 0 4294967295) (.lit 27)) (.lit 2)), false), ((.eq (.ar .shr .u32 (.var 0 0 4294967295) (.lit 27)) (.lit 1)), false), ((.eq (.ar .shr .u32 (.var 0 0 4294967295) (.lit 27)) (.lit 0)), false), ((.eq (.ar .and .u32 (.var 0 0 4294967295) (.lit 127)) (.lit 47)), true), ((.eq (.ar .and .u32 (.var 0 0 4294967295) (.lit 127)) (.lit 115)), false), ((.eq (.ar .and .u32 (.var 0 0 4294967295) (.lit 127)) (.lit 15)), false), ((.eq (.ar .and .u32 (.var 0 0 4294967295) (.lit 127)) (.lit 59)), false), ((.eq (.ar .and .u32 (.var 0 0 4294967295) (.lit 127)) (.lit 27)), false), ((.eq (.ar .and .u32 (.var 0 0 4294967295) (.lit 127)) (.lit 51)), false), ((.eq (.ar .and .u32 (.var 0 0 4294967295) (.lit 127)) (.lit 19)), false), ((.eq (.ar .and .u32 (.var 0 0 4294967295) (.lit 127)) (.lit 35)), false), ((.eq (.ar .and .u32 (.var 0 0 4294967295) (.lit 127)) (.lit 3)), false), ((.eq (.ar .and .u32 (.var 0 0 4294967295) (.lit 127)) (.lit 99)), false), ((.eq (.ar .and .u32 (.var 0 0 4294967295) (.lit 127)) (.lit 103)), false), ((.eq (.ar .and .u32 (.var 0 0 4294967295) (.lit 127)) (.lit 111)), false), ((.eq (.ar .and .u32 (.var 0 0 4294967295) (.lit 127)) (.lit 23)), false), ((.eq (.ar .and .u32 (.var 0 0 4294967295) (.lit 127)) (.lit 55)), false)]
def exc51 : List Pc := []
theorem start51_yes : startYes Tryd.prog (tabGlob tabs) lawEv 300 lawBody lawFn 17 100000 places51 exc51 (psV lawPs 0) (stTab tabs lawPc51) = true := by kernel_rfl
theorem places51_yes : ∀ p ∈ places51, placeYes Tryd.prog (tabGlob tabs) lawEv 300 lawBody lawFn 17 100000 places51 exc51 p = true :=
  (fun p h => by cases h)
theorem places51_paths : ∀ p ∈ places51, pathsOk p.stk :=
  (fun p h => by cases h)
theorem exc51_no : ∀ q ∈ exc51, ∀ i, ¬ Holds i q := by intro q hq; cases hq
def places57 : List Sx.Place := []
def lawPc57 : Pc := [((.eq (.ar .shr .u32 (.var 0 0 4294967295) (.lit 27)) (.lit 15)), true), ((.eq (.ar .shr .u32 (.var 0 0 4294967295) (.lit 27)) (.lit 14)), false), ((.eq (.ar .shr .u32 (.var 0 0 4294967295) (.lit 27)) (.lit 13)), false), ((.eq (.ar .shr .u32 (.var 0 0 4294967295) (.lit 27)) (.lit 12)), false), ((.eq (.ar .shr .u32 (.var 0 0 4294967295) (.lit 27)) (.lit 11)), false), ((.eq (.ar .shr .u32 (.var 0 0 4294967295) (.lit 27)) (.lit 10)), false), ((.eq (.ar .shr .u32 (.var 0 0 4294967295) (.lit 27)) (.lit 9)), false), ((.eq (.ar .shr .u32 (.var 0 0 4294967295) (.lit 27)) (.lit 8)), false), ((.eq (.ar .shr .u32 (.var 0 0 4294967295) (.lit 27)) (.lit 7)), false), ((.eq (.ar .shr .u32 (.var 0 0 4294967295) (.lit 27)) (.lit 6)), false), ((.eq (.ar .shr .u32 (.var 0 0 4294967295) (.lit 27)) (.lit 5)), false), ((.eq (.ar .shr .u32 (.var 0 0 4294967295) (.lit 27)) (.lit 4)), false), ((.eq (.ar .shr .u32 (.var 0 0 4294967295) (.lit 27)) (.lit 3)), false), ((.eq (.ar .shr .u32 (.var 0 0 4294967295) (.lit 27)) (.lit 2)), false), ((.eq (.ar .shr .u32 (.var 0 0 4294967295) (.lit 27)) (.lit 1)), false), ((.eq (.ar .shr .u32 (.var 0 0 4294967295) (.lit 27)) (.lit 0)), false), ((.eq (.ar .and .u32 (.var 0 0 4294967295) (.lit 127)) (.lit 47)), true), ((.eq (.ar .and .u32 (.var 0 0 4294967295) (.lit 127)) (.lit 115)), false), ((.eq (.ar .and .u32 (.var 0 0 4294967295) (.lit 127)) (.lit 15)), false), ((.eq (.ar .and .u32 (.var 0 0 4294967295) (.lit 127)) (.lit 59)), false), ((.eq (.ar .and .u32 (.var 0 0 4294967295) (.lit 127)) (.lit 27)), false), ((.eq (.ar .and .u32 (.var 0 0 4294967295) (.lit 127)) (.lit 51)), false), ((.eq (.ar .and .u32 (.var 0 0 4294967295) (.lit 127)) (.lit 19)), false), ((.eq (.ar .and .u32 (.var 0 0 4294967295) (.lit 127)) (.lit 35)), false), ((.eq (.ar .and .u32 (.var 0 0 4294967295) (.lit 127)) (.lit 3)), false), ((.eq (.ar .and .u32 (.var 0 0 4294967295) (.lit 127)) (.lit 99)), false), ((.eq (.ar .and .u32 (.var 0 0 4294967295) (.lit 127)) (.lit 103)), false), ((.eq (.ar .and .u32 (.var 0 0 4294967295) (.lit 127)) (.lit 111)), false), ((.eq (.ar .and .u32 (.var 0 0 4294967295) (.lit 127)) (.lit 23)), false), ((.eq (.ar .and .u32 (.var 0 0 4294967295) (.lit 127)) (.lit 55)), false)]
def exc57 : List Pc := []
theorem start57_yes : startYes Tryd.prog (tabGlob tabs) lawEv 300 lawBody lawFn 17 100000 places57 exc57 (psV lawPs 0) (stTab tabs lawPc57) = true := by kernel_rfl
theorem places57_yes : ∀ p ∈ places57, placeYes Tryd.prog (tabGlob tabs) lawEv 300 lawBody lawFn 17 100000 places57 exc57 p = true :=
  (fun p h => by cases h)
theorem places57_paths : ∀ p ∈ places57, pathsOk p.stk :=
  (fun p h => by cases h)
theorem exc57_no : ∀ q ∈ exc57, ∀ i, ¬ Holds i q := by intro q hq; cases hq
def places63 : List Sx.Place := []
def lawPc63 : Pc := [((.eq (.ar .shr .u32 (.var 0 0 4294967295) (.lit 27)) (.lit 21)), true), ((.eq (.ar .shr .u32 (.var 0 0 4294967295) (.lit 27)) (.lit 20)), false), ((.eq (.ar .shr .u32 (.var 0 0 4294967295) (.lit 27)) (.lit 19)), false), ((.eq (.ar .shr .u32 (.var 0 0 4294967295) (.lit 27)) (.lit 18)), false), ((.eq (.ar .shr .u32 (.var 0 0 4294967295) (.lit 27)) (.lit 17)), false), ((.eq (.ar .shr .u32 (.var 0 0 4294967295) (.lit 27)) (.lit 16)), false), ((.eq (.ar .shr .u32 (.var 0 0 4294967295) (.lit 27)) (.lit 15)), false), ((.eq (.ar .shr .u32 (.var 0 0 4294967295) (.lit 27)) (.lit 14)), false), ((.eq (.ar .shr .u32 (.var 0 0 4294967295) (.lit 27)) (.lit 13)), false), ((.eq (.ar .shr .u32 (.var 0 0 4294967295) (.lit 27)) (.lit 12)), false), ((.eq (.ar .shr .u32 (.var 0 0 4294967295) (.lit 27)) (.lit 11)), false), ((.eq (.ar .shr .u32 (.var 0 0 4294967295) (.lit 27)) (.lit 10)), false), ((.eq (.ar .shr .u32 (.var 0 0 4294967295) (.lit 27)) (.lit 9)), false), ((.eq (.ar .shr .u32 (.var 0 0 4294967295) (.lit 27)) (.lit 8)), false), ((.eq (.ar .shr .u32 (.var 0 0 4294967295) (.lit 27)) (.lit 7)), false), ((.eq (.ar .shr .u32 (.var 0 0 4294967295) (.lit 27)) (.lit 6)), false), ((.eq (.ar .shr .u32 (.var 0 0 4294967295) (.lit 27)) (.lit 5)), false), ((.eq (.ar .shr .u32 (.var 0 0 4294967295) (.lit 27)) (.lit 4)), false), ((.eq (.ar .shr .u32 (.var 0 0 4294967295) (.lit 27)) (.lit 3)), false), ((.eq (.ar .shr .u32 (.var 0 0 4294967295) (.lit 27)) (.lit 2)), false), ((.eq (.ar .shr .u32 (.var 0 0 4294967295) (.lit 27)) (.lit 1)), false), ((.eq (.ar .shr .u32 (.var 0 0 4294967295) (.lit 27)) (.lit 0)), false), ((.eq (.ar .and .u32 (.var 0 0 4294967295) (.lit 127)) (.lit 47)), true), ((.eq (.ar .and .u32 (.var 0 0 4294967295) (.lit 127)) (.lit 115)), false), ((.eq (.ar .and .u32 (.var 0 0 4294967295) (.lit 127)) (.lit 15)), false), ((.eq (.ar .and .u32 (.var 0 0 4294967295) (.lit 127)) (.lit 59)), false), ((.eq (.ar .and .u32 (.var 0 0 4294967295) (.lit 127)) (.lit 27)), false), ((.eq (.ar .and .u32 (.var 0 0 4294967295) (.lit 127)) (.lit 51)), false), ((.eq (.ar .and .u32 (.var 0 0 4294967295) (.lit 127)) (.lit 19)), false), ((.eq (.ar .and .u32 (.var 0 0 4294967295) (.lit 127)) (.lit 35)), false), ((.eq (.ar .and .u32 (.var 0 0 4294967295) (.lit 127)) (.lit 3)), false), ((.eq (.ar .and .u32 (.var 0 0 4294967295) (.lit 127)) (.lit 99)), false), ((.eq (.ar .and .u32 (.var 0 0 4294967295) (.lit 127)) (.lit 103)), false), ((.eq (.ar .and .u32 (.var 0 0 4294967295) (.lit 127)) (.lit 111)), false), ((.eq (.ar .and .u32 (.var 0 0 4294967295) (.lit 127)) (.lit 23)), false), ((.eq (.ar .and .u32 (.var 0 0 4294967295) (.lit 127)) (.lit 55)), false)]
def exc63 : List Pc := []
theorem start63_yes : startYes Tryd.prog (tabGlob tabs) lawEv 300 lawBody lawFn 17 100000 places63 exc63 (psV lawPs 0) (stTab tabs lawPc63) = true := by kernel_rfl
theorem places63_yes : ∀ p ∈ places63, placeYes Tryd.prog (tabGlob tabs) lawEv 300 lawBody lawFn 17 100000 places63 exc63 p = true :=
  (fun p h => by cases h)
theorem places63_paths : ∀ p ∈ places63, pathsOk p.stk :=
  (fun p h => by cases h)
theorem exc63_no : ∀ q ∈ exc63, ∀ i, ¬ Holds i q := by intro q hq; cases hq
def places69 : List Sx.Place := []
def lawPc69 : Pc := [((.eq (.ar .and .u32 (.var 0 0 4294967295) (.lit 127)) (.lit 47)), false), ((.eq (.ar .and .u32 (.var 0 0 4294967295) (.lit 127)) (.lit 115)), false), ((.eq (.ar .and .u32 (.var 0 0 4294967295) (.lit 127)) (.lit 15)), false), ((.eq (.ar .and .u32 (.var 0 0 4294967295) (.lit 127)) (.lit 59)), false), ((.eq (.ar .and .u32 (.var 0 0 4294967295) (.lit 127)) (.lit 27)), false), ((.eq (.ar .and .u32 (.var 0 0 4294967295) (.lit 127)) (.lit 51)), false), ((.eq (.ar .and .u32 (.var 0 0 4294967295) (.lit 127)) (.lit 19)), false), ((.eq (.ar .and .u32 (.var 0 0 4294967295) (.lit 127)) (.lit 35)), false), ((.eq (.ar .and .u32 (.var 0 0 4294967295) (.lit 127)) (.lit 3)), false), ((.eq (.ar .and .u32 (.var 0 0 4294967295) (.lit 127)) (.lit 99)), false), ((.eq (.ar .and .u32 (.var 0 0 4294967295) (.lit 127)) (.lit 103)), false), ((.eq (.ar .and .u32 (.var 0 0 4294967295) (.lit 127)) (.lit 111)), false), ((.eq (.ar .and .u32 (.var 0 0 4294967295) (.lit 127)) (.lit 23)), false), ((.eq (.ar .and .u32 (.var 0 0 4294967295) (.lit 127)) (.lit 55)), false)]
def exc69 : List Pc := []
theorem start69_yes : startYes Tryd.prog (tabGlob tabs) lawEv 300 lawBody lawFn 17 100000 places69 exc69 (psV lawPs 0) (stTab tabs lawPc69) = true := by kernel_rfl
theorem places69_yes : ∀ p ∈ places69, placeYes Tryd.prog (tabGlob tabs) lawEv 300 lawBody lawFn 17 100000 places69 exc69 p = true :=
  (fun p h => by cases h)
theorem places69_paths : ∀ p ∈ places69, pathsOk p.stk :=
  (fun p h => by cases h)
theorem exc69_no : ∀ q ∈ exc69, ∀ i, ¬ Holds i q := by intro q hq; cases hq
end
end Go.Proofs.YtedmbiadbofaoaaDoor.Sx
