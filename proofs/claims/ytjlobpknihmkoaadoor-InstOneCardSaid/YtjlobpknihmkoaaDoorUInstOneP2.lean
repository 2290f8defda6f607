/- InstOne: a part of its cases. -/
import Derived.Test.YtjlobpknihmkoaaDoorUInstOne
namespace Go.Proofs.YtjlobpknihmkoaaDoor.Sx
open Go
noncomputable section
set_option maxRecDepth 100000
def places2 : List Sx.Place := []
def lawPc2 : Pc := [((.eq (.ar .and .u32 (.var 0 0 4294967295) (.lit 127)) (.lit 111)), true), ((.eq (.ar .and .u32 (.var 0 0 4294967295) (.lit 127)) (.lit 23)), false), ((.eq (.ar .and .u32 (.var 0 0 4294967295) (.lit 127)) (.lit 55)), false)]
def exc2 : List Pc := []
theorem start2_yes : startYes Tryd.prog (tabGlob tabs) lawEv 300 lawBody lawFn 17 100000 places2 exc2 (psV lawPs 0) (stTab tabs lawPc2) = true := by kernel_rfl
theorem places2_yes : ∀ p ∈ places2, placeYes Tryd.prog (tabGlob tabs) lawEv 300 lawBody lawFn 17 100000 places2 exc2 p = true :=
  (fun p h => by cases h)
theorem places2_paths : ∀ p ∈ places2, pathsOk p.stk :=
  (fun p h => by cases h)
theorem exc2_no : ∀ q ∈ exc2, ∀ i, ¬ Holds i q := by intro q hq; cases hq
def places8 : List Sx.Place := []
def lawPc8 : Pc := [((.eq (.ar .and .u32 (.ar .shr .u32 (.var 0 0 4294967295) (.lit 12)) (.lit 7)) (.lit 1)), true), ((.eq (.ar .and .u32 (.ar .shr .u32 (.var 0 0 4294967295) (.lit 12)) (.lit 7)) (.lit 0)), false), ((.eq (.ar .and .u32 (.var 0 0 4294967295) (.lit 127)) (.lit 3)), true), ((.eq (.ar .and .u32 (.var 0 0 4294967295) (.lit 127)) (.lit 99)), false), ((.eq (.ar .and .u32 (.var 0 0 4294967295) (.lit 127)) (.lit 103)), false), ((.eq (.ar .and .u32 (.var 0 0 4294967295) (.lit 127)) (.lit 111)), false), ((.eq (.ar .and .u32 (.var 0 0 4294967295) (.lit 127)) (.lit 23)), false), ((.eq (.ar .and .u32 (.var 0 0 4294967295) (.lit 127)) (.lit 55)), false)]
def exc8 : List Pc := []
theorem start8_yes : startYes Tryd.prog (tabGlob tabs) lawEv 300 lawBody lawFn 17 100000 places8 exc8 (psV lawPs 0) (stTab tabs lawPc8) = true := by kernel_rfl
theorem places8_yes : ∀ p ∈ places8, placeYes Tryd.prog (tabGlob tabs) lawEv 300 lawBody lawFn 17 100000 places8 exc8 p = true :=
  (fun p h => by cases h)
theorem places8_paths : ∀ p ∈ places8, pathsOk p.stk :=
  (fun p h => by cases h)
theorem exc8_no : ∀ q ∈ exc8, ∀ i, ¬ Holds i q := by intro q hq; cases hq
def places14 : List Sx.Place := []
def lawPc14 : Pc := [((.eq (.ar .and .u32 (.ar .shr .u32 (.var 0 0 4294967295) (.lit 12)) (.lit 7)) (.lit 1)), true), ((.eq (.ar .and .u32 (.ar .shr .u32 (.var 0 0 4294967295) (.lit 12)) (.lit 7)) (.lit 0)), false), ((.eq (.ar .and .u32 (.var 0 0 4294967295) (.lit 127)) (.lit 19)), true), ((.eq (.ar .and .u32 (.var 0 0 4294967295) (.lit 127)) (.lit 35)), false), ((.eq (.ar .and .u32 (.var 0 0 4294967295) (.lit 127)) (.lit 3)), false), ((.eq (.ar .and .u32 (.var 0 0 4294967295) (.lit 127)) (.lit 99)), false), ((.eq (.ar .and .u32 (.var 0 0 4294967295) (.lit 127)) (.lit 103)), false), ((.eq (.ar .and .u32 (.var 0 0 4294967295) (.lit 127)) (.lit 111)), false), ((.eq (.ar .and .u32 (.var 0 0 4294967295) (.lit 127)) (.lit 23)), false), ((.eq (.ar .and .u32 (.var 0 0 4294967295) (.lit 127)) (.lit 55)), false)]
def exc14 : List Pc := []
theorem start14_yes : startYes Tryd.prog (tabGlob tabs) lawEv 300 lawBody lawFn 17 100000 places14 exc14 (psV lawPs 0) (stTab tabs lawPc14) = true := by kernel_rfl
theorem places14_yes : ∀ p ∈ places14, placeYes Tryd.prog (tabGlob tabs) lawEv 300 lawBody lawFn 17 100000 places14 exc14 p = true :=
  (fun p h => by cases h)
theorem places14_paths : ∀ p ∈ places14, pathsOk p.stk :=
  (fun p h => by cases h)
theorem exc14_no : ∀ q ∈ exc14, ∀ i, ¬ Holds i q := by intro q hq; cases hq
def places20 : List Sx.Place := []
def lawPc20 : Pc := [((.eq (.ar .and .u32 (.ar .shr .u32 (.var 0 0 4294967295) (.lit 12)) (.lit 7)) (.lit 1)), false), ((.eq (.ar .and .u32 (.ar .shr .u32 (.var 0 0 4294967295) (.lit 12)) (.lit 7)) (.lit 0)), false), ((.eq (.ar .shr .u32 (.var 0 0 4294967295) (.lit 25)) (.lit 0)), true), ((.eq (.ar .and .u32 (.var 0 0 4294967295) (.lit 127)) (.lit 51)), true), ((.eq (.ar .and .u32 (.var 0 0 4294967295) (.lit 127)) (.lit 19)), false), ((.eq (.ar .and .u32 (.var 0 0 4294967295) (.lit 127)) (.lit 35)), false), ((.eq (.ar .and .u32 (.var 0 0 4294967295) (.lit 127)) (.lit 3)), false), ((.eq (.ar .and .u32 (.var 0 0 4294967295) (.lit 127)) (.lit 99)), false), ((.eq (.ar .and .u32 (.var 0 0 4294967295) (.lit 127)) (.lit 103)), false), ((.eq (.ar .and .u32 (.var 0 0 4294967295) (.lit 127)) (.lit 111)), false), ((.eq (.ar .and .u32 (.var 0 0 4294967295) (.lit 127)) (.lit 23)), false), ((.eq (.ar .and .u32 (.var 0 0 4294967295) (.lit 127)) (.lit 55)), false)]
def exc20 : List Pc := []
theorem start20_yes : startYes Tryd.prog (tabGlob tabs) lawEv 300 lawBody lawFn 17 100000 places20 exc20 (psV lawPs 0) (stTab tabs lawPc20) = true := by kernel_rfl
theorem places20_yes : ∀ p ∈ places20, placeYes Tryd.prog (tabGlob tabs) lawEv 300 lawBody lawFn 17 100000 places20 exc20 p = true :=
  (fun p h => by cases h)
theorem places20_paths : ∀ p ∈ places20, pathsOk p.stk :=
  (fun p h => by cases h)
theorem exc20_no : ∀ q ∈ exc20, ∀ i, ¬ Holds i q := by intro q hq; cases hq
def places26 : List Sx.Place := []
def lawPc26 : Pc := [((.eq (.ar .and .u32 (.ar .shr .u32 (.var 0 0 4294967295) (.lit 12)) (.lit 7)) (.lit 1)), false), ((.eq (.ar .and .u32 (.ar .shr .u32 (.var 0 0 4294967295) (.lit 12)) (.lit 7)) (.lit 0)), false), ((.eq (.ar .shr .u32 (.var 0 0 4294967295) (.lit 25)) (.lit 32)), true), ((.eq (.ar .shr .u32 (.var 0 0 4294967295) (.lit 25)) (.lit 1)), false), ((.eq (.ar .shr .u32 (.var 0 0 4294967295) (.lit 25)) (.lit 0)), false), ((.eq (.ar .and .u32 (.var 0 0 4294967295) (.lit 127)) (.lit 51)), true), ((.eq (.ar .and .u32 (.var 0 0 4294967295) (.lit 127)) (.lit 19)), false), ((.eq (.ar .and .u32 (.var 0 0 4294967295) (.lit 127)) (.lit 35)), false), ((.eq (.ar .and .u32 (.var 0 0 4294967295) (.lit 127)) (.lit 3)), false), ((.eq (.ar .and .u32 (.var 0 0 4294967295) (.lit 127)) (.lit 99)), false), ((.eq (.ar .and .u32 (.var 0 0 4294967295) (.lit 127)) (.lit 103)), false), ((.eq (.ar .and .u32 (.var 0 0 4294967295) (.lit 127)) (.lit 111)), false), ((.eq (.ar .and .u32 (.var 0 0 4294967295) (.lit 127)) (.lit 23)), false), ((.eq (.ar .and .u32 (.var 0 0 4294967295) (.lit 127)) (.lit 55)), false)]
def exc26 : List Pc := []
theorem start26_yes : startYes Tryd.prog (tabGlob tabs) lawEv 300 lawBody lawFn 17 100000 places26 exc26 (psV lawPs 0) (stTab tabs lawPc26) = true := by kernel_rfl
theorem places26_yes : ∀ p ∈ places26, placeYes Tryd.prog (tabGlob tabs) lawEv 300 lawBody lawFn 17 100000 places26 exc26 p = true :=
  (fun p h => by cases h)
theorem places26_paths : ∀ p ∈ places26, pathsOk p.stk :=
  (fun p h => by cases h)
theorem exc26_no : ∀ q ∈ exc26, ∀ i, ¬ Holds i q := by intro q hq; cases hq
def places32 : List Sx.Place := []
def lawPc32 : Pc := [((.eq (.ar .and .u32 (.ar .shr .u32 (.var 0 0 4294967295) (.lit 12)) (.lit 7)) (.lit 1)), false), ((.eq (.ar .shr .u32 (.var 0 0 4294967295) (.lit 25)) (.lit 32)), true), ((.eq (.ar .shr .u32 (.var 0 0 4294967295) (.lit 25)) (.lit 0)), false), ((.eq (.ar .and .u32 (.ar .shr .u32 (.var 0 0 4294967295) (.lit 12)) (.lit 7)) (.lit 0)), false), ((.eq (.ar .and .u32 (.var 0 0 4294967295) (.lit 127)) (.lit 27)), true), ((.eq (.ar .and .u32 (.var 0 0 4294967295) (.lit 127)) (.lit 51)), false), ((.eq (.ar .and .u32 (.var 0 0 4294967295) (.lit 127)) (.lit 19)), false), ((.eq (.ar .and .u32 (.var 0 0 4294967295) (.lit 127)) (.lit 35)), false), ((.eq (.ar .and .u32 (.var 0 0 4294967295) (.lit 127)) (.lit 3)), false), ((.eq (.ar .and .u32 (.var 0 0 4294967295) (.lit 127)) (.lit 99)), false), ((.eq (.ar .and .u32 (.var 0 0 4294967295) (.lit 127)) (.lit 103)), false), ((.eq (.ar .and .u32 (.var 0 0 4294967295) (.lit 127)) (.lit 111)), false), ((.eq (.ar .and .u32 (.var 0 0 4294967295) (.lit 127)) (.lit 23)), false), ((.eq (.ar .and .u32 (.var 0 0 4294967295) (.lit 127)) (.lit 55)), false)]
def exc32 : List Pc := []
theorem start32_yes : startYes Tryd.prog (tabGlob tabs) lawEv 300 lawBody lawFn 17 100000 places32 exc32 (psV lawPs 0) (stTab tabs lawPc32) = true := by kernel_rfl
theorem places32_yes : ∀ p ∈ places32, placeYes Tryd.prog (tabGlob tabs) lawEv 300 lawBody lawFn 17 100000 places32 exc32 p = true :=
  (fun p h => by cases h)
theorem places32_paths : ∀ p ∈ places32, pathsOk p.stk :=
  (fun p h => by cases h)
theorem exc32_no : ∀ q ∈ exc32, ∀ i, ¬ Holds i q := by intro q hq; cases hq
def places38 : List Sx.Place := []
def lawPc38 : Pc := [((.eq (.ar .and .u32 (.ar .shr .u32 (.var 0 0 4294967295) (.lit 12)) (.lit 7)) (.lit 1)), true), ((.eq (.ar .and .u32 (.ar .shr .u32 (.var 0 0 4294967295) (.lit 12)) (.lit 7)) (.lit 0)), false), ((.eq (.ar .shr .u32 (.var 0 0 4294967295) (.lit 25)) (.lit 1)), true), ((.eq (.ar .shr .u32 (.var 0 0 4294967295) (.lit 25)) (.lit 0)), false), ((.eq (.ar .and .u32 (.var 0 0 4294967295) (.lit 127)) (.lit 59)), true), ((.eq (.ar .and .u32 (.var 0 0 4294967295) (.lit 127)) (.lit 27)), false), ((.eq (.ar .and .u32 (.var 0 0 4294967295) (.lit 127)) (.lit 51)), false), ((.eq (.ar .and .u32 (.var 0 0 4294967295) (.lit 127)) (.lit 19)), false), ((.eq (.ar .and .u32 (.var 0 0 4294967295) (.lit 127)) (.lit 35)), false), ((.eq (.ar .and .u32 (.var 0 0 4294967295) (.lit 127)) (.lit 3)), false), ((.eq (.ar .and .u32 (.var 0 0 4294967295) (.lit 127)) (.lit 99)), false), ((.eq (.ar .and .u32 (.var 0 0 4294967295) (.lit 127)) (.lit 103)), false), ((.eq (.ar .and .u32 (.var 0 0 4294967295) (.lit 127)) (.lit 111)), false), ((.eq (.ar .and .u32 (.var 0 0 4294967295) (.lit 127)) (.lit 23)), false), ((.eq (.ar .and .u32 (.var 0 0 4294967295) (.lit 127)) (.lit 55)), false)]
def exc38 : List Pc := []
theorem start38_yes : startYes Tryd.prog (tabGlob tabs) lawEv 300 lawBody lawFn 17 100000 places38 exc38 (psV lawPs 0) (stTab tabs lawPc38) = true := by kernel_rfl
theorem places38_yes : ∀ p ∈ places38, placeYes Tryd.prog (tabGlob tabs) lawEv 300 lawBody lawFn 17 100000 places38 exc38 p = true :=
  (fun p h => by cases h)
theorem places38_paths : ∀ p ∈ places38, pathsOk p.stk :=
  (fun p h => by cases h)
theorem exc38_no : ∀ q ∈ exc38, ∀ i, ¬ Holds i q := by intro q hq; cases hq
def places44 : List Sx.Place := []
def lawPc44 : Pc := [((.eq (.ar .and .u32 (.ar .shr .u32 (.var 0 0 4294967295) (.lit 12)) (.lit 7)) (.lit 0)), true), ((.eq (.ar .and .u32 (.var 0 0 4294967295) (.lit 127)) (.lit 15)), true), ((.eq (.ar .and .u32 (.var 0 0 4294967295) (.lit 127)) (.lit 59)), false), ((.eq (.ar .and .u32 (.var 0 0 4294967295) (.lit 127)) (.lit 27)), false), ((.eq (.ar .and .u32 (.var 0 0 4294967295) (.lit 127)) (.lit 51)), false), ((.eq (.ar .and .u32 (.var 0 0 4294967295) (.lit 127)) (.lit 19)), false), ((.eq (.ar .and .u32 (.var 0 0 4294967295) (.lit 127)) (.lit 35)), false), ((.eq (.ar .and .u32 (.var 0 0 4294967295) (.lit 127)) (.lit 3)), false), ((.eq (.ar .and .u32 (.var 0 0 4294967295) (.lit 127)) (.lit 99)), false), ((.eq (.ar .and .u32 (.var 0 0 4294967295) (.lit 127)) (.lit 103)), false), ((.eq (.ar .and .u32 (.var 0 0 4294967295) (.lit 127)) (.lit 111)), false), ((.eq (.ar .and .u32 (.var 0 0 4294967295) (.lit 127)) (.lit 23)), false), ((.eq (.ar .and .u32 (.var 0 0 4294967295) (.lit 127)) (.lit 55)), false)]
def exc44 : List Pc := []
theorem start44_yes : startYes Tryd.prog (tabGlob tabs) lawEv 300 lawBody lawFn 17 100000 places44 exc44 (psV lawPs 0) (stTab tabs lawPc44) = true := by kernel_rfl
theorem places44_yes : ∀ p ∈ places44, placeYes Tryd.prog (tabGlob tabs) lawEv 300 lawBody lawFn 17 100000 places44 exc44 p = true :=
  (fun p h => by cases h)
theorem places44_paths : ∀ p ∈ places44, pathsOk p.stk :=
  (fun p h => by cases h)
theorem exc44_no : ∀ q ∈ exc44, ∀ i, ¬ Holds i q := by intro q hq; cases hq
def places50 : List Sx.Place := []
def lawPc50 : Pc := [((.eq (.var 0 0 4294967295) (.lit 273678451)), true), ((.eq (.var 0 0 4294967295) (.lit 270532723)), false), ((.eq (.var 0 0 4294967295) (.lit 1048691)), false), ((.eq (.var 0 0 4294967295) (.lit 115)), false), ((.eq (.ar .and .u32 (.var 0 0 4294967295) (.lit 127)) (.lit 115)), true), ((.eq (.ar .and .u32 (.var 0 0 4294967295) (.lit 127)) (.lit 15)), false), ((.eq (.ar .and .u32 (.var 0 0 4294967295) (.lit 127)) (.lit 59)), false), ((.eq (.ar .and .u32 (.var 0 0 4294967295) (.lit 127)) (.lit 27)), false), ((.eq (.ar .and .u32 (.var 0 0 4294967295) (.lit 127)) (.lit 51)), false), ((.eq (.ar .and .u32 (.var 0 0 4294967295) (.lit 127)) (.lit 19)), false), ((.eq (.ar .and .u32 (.var 0 0 4294967295) (.lit 127)) (.lit 35)), false), ((.eq (.ar .and .u32 (.var 0 0 4294967295) (.lit 127)) (.lit 3)), false), ((.eq (.ar .and .u32 (.var 0 0 4294967295) (.lit 127)) (.lit 99)), false), ((.eq (.ar .and .u32 (.var 0 0 4294967295) (.lit 127)) (.lit 103)), false), ((.eq (.ar .and .u32 (.var 0 0 4294967295) (.lit 127)) (.lit 111)), false), ((.eq (.ar .and .u32 (.var 0 0 4294967295) (.lit 127)) (.lit 23)), false), ((.eq (.ar .and .u32 (.var 0 0 4294967295) (.lit 127)) (.lit 55)), false)]
def exc50 : List Pc := []
theorem start50_yes : startYes Tryd.prog (tabGlob tabs) lawEv 300 lawBody lawFn 17 100000 places50 exc50 (psV lawPs 0) (stTab tabs lawPc50) = true := by kernel_rfl
theorem places50_yes : ∀ p ∈ places50, placeYes Tryd.prog (tabGlob tabs) lawEv 300 lawBody lawFn 17 100000 places50 exc50 p = true :=
  (fun p h => by cases h)
theorem places50_paths : ∀ p ∈ places50, pathsOk p.stk :=
  (fun p h => by cases h)
theorem exc50_no : ∀ q ∈ exc50, ∀ i, ¬ Holds i q := by intro q hq; cases hq
def places56 : List Sx.Place := []
def lawPc56 : Pc := [((.eq (.ar .shr .u32 (.var 0 0 4294967295) (.lit 27)) (.lit 1)), true), ((.eq (.ar .shr .u32 (.var 0 0 4294967295) (.lit 27)) (.lit 0)), false), ((.eq (.ar .and .u32 (.var 0 0 4294967295) (.lit 127)) (.lit 47)), true), ((.eq (.ar .and .u32 (.var 0 0 4294967295) (.lit 127)) (.lit 115)), false), ((.eq (.ar .and .u32 (.var 0 0 4294967295) (.lit 127)) (.lit 15)), false), ((.eq (.ar .and .u32 (.var 0 0 4294967295) (.lit 127)) (.lit 59)), false), ((.eq (.ar .and .u32 (.var 0 0 4294967295) (.lit 127)) (.lit 27)), false), ((.eq (.ar .and .u32 (.var 0 0 4294967295) (.lit 127)) (.lit 51)), false), ((.eq (.ar .and .u32 (.var 0 0 4294967295) (.lit 127)) (.lit 19)), false), ((.eq (.ar .and .u32 (.var 0 0 4294967295) (.lit 127)) (.lit 35)), false), ((.eq (.ar .and .u32 (.var 0 0 4294967295) (.lit 127)) (.lit 3)), false), ((.eq (.ar .and .u32 (.var 0 0 4294967295) (.lit 127)) (.lit 99)), false), ((.eq (.ar .and .u32 (.var 0 0 4294967295) (.lit 127)) (.lit 103)), false), ((.eq (.ar .and .u32 (.var 0 0 4294967295) (.lit 127)) (.lit 111)), false), ((.eq (.ar .and .u32 (.var 0 0 4294967295) (.lit 127)) (.lit 23)), false), ((.eq (.ar .and .u32 (.var 0 0 4294967295) (.lit 127)) (.lit 55)), false)]
def exc56 : List Pc := []
theorem start56_yes : startYes Tryd.prog (tabGlob tabs) lawEv 300 lawBody lawFn 17 100000 places56 exc56 (psV lawPs 0) (stTab tabs lawPc56) = true := by kernel_rfl
theorem places56_yes : ∀ p ∈ places56, placeYes Tryd.prog (tabGlob tabs) lawEv 300 lawBody lawFn 17 100000 places56 exc56 p = true :=
  (fun p h => by cases h)
theorem places56_paths : ∀ p ∈ places56, pathsOk p.stk :=
  (fun p h => by cases h)
theorem exc56_no : ∀ q ∈ exc56, ∀ i, ¬ Holds i q := by intro q hq; cases hq
def places62 : List Sx.Place := []
def lawPc62 : Pc := [((.eq (.ar .shr .u32 (.var 0 0 4294967295) (.lit 27)) (.lit 7)), true), ((.eq (.ar .shr .u32 (.var 0 0 4294967295) (.lit 27)) (.lit 6)), false), ((.eq (.ar .shr .u32 (.var 0 0 4294967295) (.lit 27)) (.lit 5)), false), ((.eq (.ar .shr .u32 (.var 0 0 4294967295) (.lit 27)) (.lit 4)), false), ((.eq (.ar .shr .u32 (.var 0 0 4294967295) (.lit 27)) (.lit 3)), false), ((.eq (.ar .shr .u32 (.var 0 0 4294967295) (.lit 27)) (.lit 2)), false), ((.eq (.ar .shr .u32 (.var 0 0 4294967295) (.lit 27)) (.lit 1)), false), ((.eq (.ar .shr .u32 (.var 0 0 4294967295) (.lit 27)) (.lit 0)), false), ((.eq (.ar .and .u32 (.var 0 0 4294967295) (.lit 127)) (.lit 47)), true), ((.eq (.ar .and .u32 (.var 0 0 4294967295) (.lit 127)) (.lit 115)), false), ((.eq (.ar .and .u32 (.var 0 0 4294967295) (.lit 127)) (.lit 15)), false), ((.eq (.ar .and .u32 (.var 0 0 4294967295) (.lit 127)) (.lit 59)), false), ((.eq (.ar .and .u32 (.var 0 0 4294967295) (.lit 127)) (.lit 27)), false), ((.eq (.ar .and .u32 (.var 0 0 4294967295) (.lit 127)) (.lit 51)), false), ((.eq (.ar .and .u32 (.var 0 0 4294967295) (.lit 127)) (.lit 19)), false), ((.eq (.ar .and .u32 (.var 0 0 4294967295) (.lit 127)) (.lit 35)), false), ((.eq (.ar .and .u32 (.var 0 0 4294967295) (.lit 127)) (.lit 3)), false), ((.eq (.ar .and .u32 (.var 0 0 4294967295) (.lit 127)) (.lit 99)), false), ((.eq (.ar .and .u32 (.var 0 0 4294967295) (.lit 127)) (.lit 103)), false), ((.eq (.ar .and .u32 (.var 0 0 4294967295) (.lit 127)) (.lit 111)), false), ((.eq (.ar .and .u32 (.var 0 0 4294967295) (.lit 127)) (.lit 23)), false), ((.eq (.ar .and .u32 (.var 0 0 4294967295) (.lit 127)) (.lit 55)), false)]
def exc62 : List Pc := []
theorem start62_yes : startYes Tryd.prog (tabGlob tabs) lawEv 300 lawBody lawFn 17 100000 places62 exc62 (psV lawPs 0) (stTab tabs lawPc62) = true := by kernel_rfl
theorem places62_yes : ∀ p ∈ places62, placeYes Tryd.prog (tabGlob tabs) lawEv 300 lawBody lawFn 17 100000 places62 exc62 p = true :=
  (fun p h => by cases h)
theorem places62_paths : ∀ p ∈ places62, pathsOk p.stk :=
  (fun p h => by cases h)
theorem exc62_no : ∀ q ∈ exc62, ∀ i, ¬ Holds i q := by intro q hq; cases hq
def places68 : List Sx.Place := []
def lawPc68 : Pc := [((.eq (.ar .shr .u32 (.var 0 0 4294967295) (.lit 27)) (.lit 13)), true), ((.eq (.ar .shr .u32 (.var 0 0 4294967295) (.lit 27)) (.lit 12)), false), ((.eq (.ar .shr .u32 (.var 0 0 4294967295) (.lit 27)) (.lit 11)), false), ((.eq (.ar .shr .u32 (.var 0 0 4294967295) (.lit 27)) (.lit 10)), false), ((.eq (.ar .shr .u32 (.var 0 0 4294967295) (.lit 27)) (.lit 9)), false), ((.eq (.ar .shr .u32 (.var 0 0 4294967295) (.lit 27)) (.lit 8)), false), ((.eq (.ar .shr .u32 (.var 0 0 4294967295) (.lit 27)) (.lit 7)), false), ((.eq (.ar .shr .u32 (.var 0 0 4294967295) (.lit 27)) (.lit 6)), false), ((.eq (.ar .shr .u32 (.var 0 0 4294967295) (.lit 27)) (.lit 5)), false), ((.eq (.ar .shr .u32 (.var 0 0 4294967295) (.lit 27)) (.lit 4)), false), ((.eq (.ar .shr .u32 (.var 0 0 4294967295) (.lit 27)) (.lit 3)), false), ((.eq (.ar .shr .u32 (.var 0 0 4294967295) (.lit 27)) (.lit 2)), false), ((.eq (.ar .shr .u32 (.var 0 0 4294967295) (.lit 27)) (.lit 1)), false), ((.eq (.ar .shr .u32 (.var 0 0 4294967295) (.lit 27)) (.lit 0)), false), ((.eq (.ar .and .u32 (.var 0 0 4294967295) (.lit 127)) (.lit 47)), true), ((.eq (.ar .and .u32 (.var 0 0 4294967295) (.lit 127)) (.lit 115)), false), ((.eq (.ar .and .u32 (.var 0 0 4294967295) (.lit 127)) (.lit 15)), false), ((.eq (.ar .and .u32 (.var 0 0 4294967295) (.lit 127)) (.lit 59)), false), ((.eq (.ar .and .u32 (.var 0 0 4294967295) (.lit 127)) (.lit 27)), false), ((.eq (.ar .and .u32 (.var 0 0 4294967295) (.lit 127)) (.lit 51)), false), ((.eq (.ar .and .u32 (.var 0 0 4294967295) (.lit 127)) (.lit 19)), false), ((.eq (.ar .and .u32 (.var 0 0 4294967295) (.lit 127)) (.lit 35)), false), ((.eq (.ar .and .u32 (.var 0 0 4294967295) (.lit 127)) (.lit 3)), false), ((.eq (.ar .and .u32 (.var 0 0 4294967295) (.lit 127)) (.lit 99)), false), ((.eq (.ar .and .u32 (.var 0 0 4294967295) (.lit 127)) (.lit 103)), false), ((.eq (.ar .and .u32 (.var 0 0 4294967295) (.lit 127)) (.lit 111)), false), ((.eq (.ar .and .u32 (.var 0 0 4294967295) (.lit 127)) (.lit 23)), false), ((.eq (.ar .and .u32 (.var 0 0 4294967295) (.lit 127)) (.lit 55)), false)]
def exc68 : List Pc := []
theorem start68_yes : startYes Tryd.prog (tabGlob tabs) lawEv 300 lawBody lawFn 17 100000 places68 exc68 (psV lawPs 0) (stTab tabs lawPc68) = true := by kernel_rfl
theorem places68_yes : ∀ p ∈ places68, placeYes Tryd.prog (tabGlob tabs) lawEv 300 lawBody lawFn 17 100000 places68 exc68 p = true :=
  (fun p h => by cases h)
theorem places68_paths : ∀ p ∈ places68, pathsOk p.stk :=
  (fun p h => by cases h)
theorem exc68_no : ∀ q ∈ exc68, ∀ i, ¬ Holds i q := by intro q hq; cases hq
def places74 : List Sx.Place := []
def lawPc74 : Pc := [((.eq (.ar .shr .u32 (.var 0 0 4294967295) (.lit 27)) (.lit 19)), true), ((.eq (.ar .shr .u32 (.var 0 0 4294967295) (.lit 27)) (.lit 18)), false), ((.eq (.ar .shr .u32 (.var 0 0 4294967295) (.lit 27)) (.lit 17)), false), ((.eq (.ar .shr .u32 (.var 0 0 4294967295) (.lit 27)) (.lit 16)), false), ((.eq (.ar .shr .u32 (.var 0 0 4294967295) (.lit 27)) (.lit 15)), false), ((.eq (.ar .shr .u32 (.var 0 0 4294967295) (.lit 27)) (.lit 14)), false), ((.eq (.ar .shr .u32 (.var 0 0 4294967295) (.lit 27)) (.lit 13)), false), ((.eq (.ar .shr .u32 (.var 0 0 4294967295) (.lit 27)) (.lit 12)), false), ((.eq (.ar .shr .u32 (.var 0 0 4294967295) (.lit 27)) (.lit 11)), false), ((.eq (.ar .shr .u32 (.var 0 0 4294967295) (.lit 27)) (.lit 10)), false), ((.eq (.ar .shr .u32 (.var 0 0 4294967295) (.lit 27)) (.lit 9)), false), ((.eq (.ar .shr .u32 (.var 0 0 4294967295) (.lit 27)) (.lit 8)), false), ((.eq (.ar .shr .u32 (.var 0 0 4294967295) (.lit 27)) (.lit 7)), false), ((.eq (.ar .shr .u32 (.var 0 0 4294967295) (.lit 27)) (.lit 6)), false), ((.eq (.ar .shr .u32 (.var 0 0 4294967295) (.lit 27)) (.lit 5)), false), ((.eq (.ar .shr .u32 (.var 0 0 4294967295) (.lit 27)) (.lit 4)), false), ((.eq (.ar .shr .u32 (.var 0 0 4294967295) (.lit 27)) (.lit 3)), false), ((.eq (.ar .shr .u32 (.var 0 0 4294967295) (.lit 27)) (.lit 2)), false), ((.eq (.ar .shr .u32 (.var 0 0 4294967295) (.lit 27)) (.lit 1)), false), ((.eq (.ar .shr .u32 (.var 0 0 4294967295) (.lit 27)) (.lit 0)), false), ((.eq (.ar .and .u32 (.var 0 0 4294967295) (.lit 127)) (.lit 47)), true), ((.eq (.ar .and .u32 (.var 0 0 4294967295) (.lit 127)) (.lit 115)), false), ((.eq (.ar .and .u32 (.var 0 0 4294967295) (.lit 127)) (.lit 15)), false), ((.eq (.ar .and .u32 (.var 0 0 4294967295) (.lit 127)) (.lit 59)), false), ((.eq (.ar .and .u32 (.var 0 0 4294967295) (.lit 127)) (.lit 27)), false), ((.eq (.ar .and .u32 (.var 0 0 4294967295) (.lit 127)) (.lit 51)), false), ((.eq (.ar .and .u32 (.var 0 0 4294967295) (.lit 127)) (.lit 19)), false), ((.eq (.ar .and .u32 (.var 0 0 4294967295) (.lit 127)) (.lit 35)), false), ((.eq (.ar .and .u32 (.var 0 0 4294967295) (.lit 127)) (.lit 3)), false), ((.eq (.ar .and .u32 (.var 0 0 4294967295) (.lit 127)) (.lit 99)), false), ((.eq (.ar .and .u32 (.var 0 0 4294967295) (.lit 127)) (.lit 103)), false), ((.eq (.ar .and .u32 (.var 0 0 4294967295) (.lit 127)) (.lit 111)), false), ((.eq (.ar .and .u32 (.var 0 0 4294967295) (.lit 127)) (.lit 23)), false), ((.eq (.ar .and .u32 (.var 0 0 4294967295) (.lit 127)) (.lit 55)), false)]
def exc74 : List Pc := []
theorem start74_yes : startYes Tryd.prog (tabGlob tabs) lawEv 300 lawBody lawFn 17 100000 places74 exc74 (psV lawPs 0) (stTab tabs lawPc74) = true := by kernel_rfl
theorem places74_yes : ∀ p ∈ places74, placeYes Tryd.prog (tabGlob tabs) lawEv 300 lawBody lawFn 17 100000 places74 exc74 p = true :=
  (fun p h => by cases h)
theorem places74_paths : ∀ p ∈ places74, pathsOk p.stk :=
  (fun p h => by cases h)
theorem exc74_no : ∀ q ∈ exc74, ∀ i, ¬ Holds i q := by intro q hq; cases hq
def places80 : List Sx.Place := []
def lawPc80 : Pc := [((.eq (.ar .shr .u32 (.var 0 0 4294967295) (.lit 27)) (.lit 25)), true), ((.eq (.ar .shr .u32 (.var 0 0 4294967295) (.lit 27)) (.lit 24)), false), ((.eq (.ar .shr .u32 (.var 0 0 4294967295) (.lit 27)) (.lit 23)), false), ((.eq (.ar .shr .u32 (.var 0 0 4294967295) (.lit 27)) (.lit 22)), false), ((.eq (.ar .shr .u32 (.var 0 0 4294967295) (.lit 27)) (.lit 21)), false), ((.eq (.ar .shr .u32 (.var 0 0 4294967295) (.lit 27)) (.lit 20)), false), ((.eq (.ar .shr .u32 (.var 0 0 4294967295) (.lit 27)) (.lit 19)), false), ((.eq (.ar .shr .u32 (.var 0 0 4294967295) (.lit 27)) (.lit 18)), false), ((.eq (.ar .shr .u32 (.var 0 0 4294967295) (.lit 27)) (.lit 17)), false), ((.eq (.ar .shr .u32 (.var 0 0 4294967295) (.lit 27)) (.lit 16)), false), ((.eq (.ar .shr .u32 (.var 0 0 4294967295) (.lit 27)) (.lit 15)), false), ((.eq (.ar .shr .u32 (.var 0 0 4294967295) (.lit 27)) (.lit 14)), false), ((.eq (.ar .shr .u32 (.var 0 0 4294967295) (.lit 27)) (.lit 13)), false), ((.eq (.ar .shr .u32 (.var 0 0 4294967295) (.lit 27)) (.lit 12)), false), ((.eq (.ar .shr .u32 (.var 0 0 4294967295) (.lit 27)) (.lit 11)), false), ((.eq (.ar .shr .u32 (.var 0 0 4294967295) (.lit 27)) (.lit 10)), false), ((.eq (.ar .shr .u32 (.var 0 0 4294967295) (.lit 27)) (.lit 9)), false), ((.eq (.ar .shr .u32 (.var 0 0 4294967295) (.lit 27)) (.lit 8)), false), ((.eq (.ar .shr .u32 (.var 0 0 4294967295) (.lit 27)) (.lit 7)), false), ((.eq (.ar .shr .u32 (.var 0 0 4294967295) (.lit 27)) (.lit 6)), false), ((.eq (.ar .shr .u32 (.var 0 0 4294967295) (.lit 27)) (.lit 5)), false), ((.eq (.ar .shr .u32 (.var 0 0 4294967295) (.lit 27)) (.lit 4)), false), ((.eq (.ar .shr .u32 (.var 0 0 4294967295) (.lit 27)) (.lit 3)), false), ((.eq (.ar .shr .u32 (.var 0 0 4294967295) (.lit 27)) (.lit 2)), false), ((.eq (.ar .shr .u32 (.var 0 0 4294967295) (.lit 27)) (.lit 1)), false), ((.eq (.ar .shr .u32 (.var 0 0 4294967295) (.lit 27)) (.lit 0)), false), ((.eq (.ar .and .u32 (.var 0 0 4294967295) (.lit 127)) (.lit 47)), true), ((.eq (.ar .and .u32 (.var 0 0 4294967295) (.lit 127)) (.lit 115)), false), ((.eq (.ar .and .u32 (.var 0 0 4294967295) (.lit 127)) (.lit 15)), false), ((.eq (.ar .and .u32 (.var 0 0 4294967295) (.lit 127)) (.lit 59)), false), ((.eq (.ar .and .u32 (.var 0 0 4294967295) (.lit 127)) (.lit 27)), false), ((.eq (.ar .and .u32 (.var 0 0 4294967295) (.lit 127)) (.lit 51)), false), ((.eq (.ar .and .u32 (.var 0 0 4294967295) (.lit 127)) (.lit 19)), false), ((.eq (.ar .and .u32 (.var 0 0 4294967295) (.lit 127)) (.lit 35)), false), ((.eq (.ar .and .u32 (.var 0 0 4294967295) (.lit 127)) (.lit 3)), false), ((.eq (.ar .and .u32 (.var 0 0 4294967295) (.lit 127)) (.lit 99)), false), ((.eq (.ar .and .u32 (.var 0 0 4294967295) (.lit 127)) (.lit 103)), false), ((.eq (.ar .and .u32 (.var 0 0 4294967295) (.lit 127)) (.lit 111)), false), ((.eq (.ar .and .u32 (.var 0 0 4294967295) (.lit 127)) (.lit 23)), false), ((.eq (.ar .and .u32 (.var 0 0 4294967295) (.lit 127)) (.lit 55)), false)]
def exc80 : List Pc := []
theorem start80_yes : startYes Tryd.prog (tabGlob tabs) lawEv 300 lawBody lawFn 17 100000 places80 exc80 (psV lawPs 0) (stTab tabs lawPc80) = true := by kernel_rfl
theorem places80_yes : ∀ p ∈ places80, placeYes Tryd.prog (tabGlob tabs) lawEv 300 lawBody lawFn 17 100000 places80 exc80 p = true :=
  (fun p h => by cases h)
theorem places80_paths : ∀ p ∈ places80, pathsOk p.stk :=
  (fun p h => by cases h)
theorem exc80_no : ∀ q ∈ exc80, ∀ i, ¬ Holds i q := by intro q hq; cases hq
end
end Go.Proofs.YtjlobpknihmkoaaDoor.Sx
