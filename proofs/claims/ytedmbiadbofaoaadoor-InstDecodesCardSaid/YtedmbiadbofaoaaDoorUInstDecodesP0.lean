/- InstDecodes: a part of its cases. -/
import Derived.Test.YtedmbiadbofaoaaDoorUInstDecodes
namespace Go.Proofs.YtedmbiadbofaoaaDoor.Sx
open Go
noncomputable section
set_option maxRecDepth 100000
def places0 : List Sx.Place := []
def lawPc0 : Pc := [((.eq (.ar .and .u32 (.var 0 0 4294967295) (.lit 127)) (.lit 55)), true)]
def exc0 : List Pc := []
theorem start0_yes : startYes Tryd.prog (tabGlob tabs) lawEv 300 lawBody lawFn 17 100000 places0 exc0 (psV lawPs 0) (stTab tabs lawPc0) = true := by kernel_rfl
theorem places0_yes : ∀ p ∈ places0, placeYes Tryd.prog (tabGlob tabs) lawEv 300 lawBody lawFn 17 100000 places0 exc0 p = true :=
  (fun p h => by cases h)
theorem places0_paths : ∀ p ∈ places0, pathsOk p.stk :=
  (fun p h => by cases h)
theorem exc0_no : ∀ q ∈ exc0, ∀ i, ¬ Holds i q := by intro q hq; cases hq
def places6 : List Sx.Place := []
def lawPc6 : Pc := [((.eq (.ar .and .u32 (.ar .shr .u32 (.var 0 0 4294967295) (.lit 12)) (.lit 7)) (.lit 2)), true), ((.eq (.ar .and .u32 (.ar .shr .u32 (.var 0 0 4294967295) (.lit 12)) (.lit 7)) (.lit 1)), false), ((.eq (.ar .and .u32 (.ar .shr .u32 (.var 0 0 4294967295) (.lit 12)) (.lit 7)) (.lit 0)), false), ((.eq (.ar .and .u32 (.var 0 0 4294967295) (.lit 127)) (.lit 99)), true), ((.eq (.ar .and .u32 (.var 0 0 4294967295) (.lit 127)) (.lit 103)), false), ((.eq (.ar .and .u32 (.var 0 0 4294967295) (.lit 127)) (.lit 111)), false), ((.eq (.ar .and .u32 (.var 0 0 4294967295) (.lit 127)) (.lit 23)), false), ((.eq (.ar .and .u32 (.var 0 0 4294967295) (.lit 127)) (.lit 55)), false)]
def exc6 : List Pc := []
theorem start6_yes : startYes Tryd.prog (tabGlob tabs) lawEv 300 lawBody lawFn 17 100000 places6 exc6 (psV lawPs 0) (stTab tabs lawPc6) = true := by kernel_rfl
theorem places6_yes : ∀ p ∈ places6, placeYes Tryd.prog (tabGlob tabs) lawEv 300 lawBody lawFn 17 100000 places6 exc6 p = true :=
  (fun p h => by cases h)
theorem places6_paths : ∀ p ∈ places6, pathsOk p.stk :=
  (fun p h => by cases h)
theorem exc6_no : ∀ q ∈ exc6, ∀ i, ¬ Holds i q := by intro q hq; cases hq
def places12 : List Sx.Place := []
def lawPc12 : Pc := [((.eq (.ar .and .u32 (.ar .shr .u32 (.var 0 0 4294967295) (.lit 12)) (.lit 7)) (.lit 3)), true), ((.eq (.ar .and .u32 (.ar .shr .u32 (.var 0 0 4294967295) (.lit 12)) (.lit 7)) (.lit 2)), false), ((.eq (.ar .and .u32 (.ar .shr .u32 (.var 0 0 4294967295) (.lit 12)) (.lit 7)) (.lit 1)), false), ((.eq (.ar .and .u32 (.ar .shr .u32 (.var 0 0 4294967295) (.lit 12)) (.lit 7)) (.lit 0)), false), ((.eq (.ar .and .u32 (.var 0 0 4294967295) (.lit 127)) (.lit 3)), true), ((.eq (.ar .and .u32 (.var 0 0 4294967295) (.lit 127)) (.lit 99)), false), ((.eq (.ar .and .u32 (.var 0 0 4294967295) (.lit 127)) (.lit 103)), false), ((.eq (.ar .and .u32 (.var 0 0 4294967295) (.lit 127)) (.lit 111)), false), ((.eq (.ar .and .u32 (.var 0 0 4294967295) (.lit 127)) (.lit 23)), false), ((.eq (.ar .and .u32 (.var 0 0 4294967295) (.lit 127)) (.lit 55)), false)]
def exc12 : List Pc := []
theorem start12_yes : startYes Tryd.prog (tabGlob tabs) lawEv 300 lawBody lawFn 17 100000 places12 exc12 (psV lawPs 0) (stTab tabs lawPc12) = true := by kernel_rfl
theorem places12_yes : ∀ p ∈ places12, placeYes Tryd.prog (tabGlob tabs) lawEv 300 lawBody lawFn 17 100000 places12 exc12 p = true :=
  (fun p h => by cases h)
theorem places12_paths : ∀ p ∈ places12, pathsOk p.stk :=
  (fun p h => by cases h)
theorem exc12_no : ∀ q ∈ exc12, ∀ i, ¬ Holds i q := by intro q hq; cases hq
def places18 : List Sx.Place := []
def lawPc18 : Pc := [((.eq (.ar .and .u32 (.ar .shr .u32 (.var 0 0 4294967295) (.lit 12)) (.lit 7)) (.lit 1)), true), ((.eq (.ar .and .u32 (.ar .shr .u32 (.var 0 0 4294967295) (.lit 12)) (.lit 7)) (.lit 0)), false), ((.eq (.ar .and .u32 (.var 0 0 4294967295) (.lit 127)) (.lit 19)), true), ((.eq (.ar .and .u32 (.var 0 0 4294967295) (.lit 127)) (.lit 35)), false), ((.eq (.ar .and .u32 (.var 0 0 4294967295) (.lit 127)) (.lit 3)), false), ((.eq (.ar .and .u32 (.var 0 0 4294967295) (.lit 127)) (.lit 99)), false), ((.eq (.ar .and .u32 (.var 0 0 4294967295) (.lit 127)) (.lit 103)), false), ((.eq (.ar .and .u32 (.var 0 0 4294967295) (.lit 127)) (.lit 111)), false), ((.eq (.ar .and .u32 (.var 0 0 4294967295) (.lit 127)) (.lit 23)), false), ((.eq (.ar .and .u32 (.var 0 0 4294967295) (.lit 127)) (.lit 55)), false)]
def exc18 : List Pc := []
theorem start18_yes : startYes Tryd.prog (tabGlob tabs) lawEv 300 lawBody lawFn 17 100000 places18 exc18 (psV lawPs 0) (stTab tabs lawPc18) = true := by kernel_rfl
theorem places18_yes : ∀ p ∈ places18, placeYes Tryd.prog (tabGlob tabs) lawEv 300 lawBody lawFn 17 100000 places18 exc18 p = true :=
  (fun p h => by cases h)
theorem places18_paths : ∀ p ∈ places18, pathsOk p.stk :=
  (fun p h => by cases h)
theorem exc18_no : ∀ q ∈ exc18, ∀ i, ¬ Holds i q := by intro q hq; cases hq
def places24 : List Sx.Place := []
def lawPc24 : Pc := [((.eq (.ar .shr .u32 (.var 0 0 4294967295) (.lit 25)) (.lit 1)), true), ((.eq (.ar .shr .u32 (.var 0 0 4294967295) (.lit 25)) (.lit 0)), false), ((.eq (.ar .and .u32 (.var 0 0 4294967295) (.lit 127)) (.lit 51)), true), ((.eq (.ar .and .u32 (.var 0 0 4294967295) (.lit 127)) (.lit 19)), false), ((.eq (.ar .and .u32 (.var 0 0 4294967295) (.lit 127)) (.lit 35)), false), ((.eq (.ar .and .u32 (.var 0 0 4294967295) (.lit 127)) (.lit 3)), false), ((.eq (.ar .and .u32 (.var 0 0 4294967295) (.lit 127)) (.lit 99)), false), ((.eq (.ar .and .u32 (.var 0 0 4294967295) (.lit 127)) (.lit 103)), false), ((.eq (.ar .and .u32 (.var 0 0 4294967295) (.lit 127)) (.lit 111)), false), ((.eq (.ar .and .u32 (.var 0 0 4294967295) (.lit 127)) (.lit 23)), false), ((.eq (.ar .and .u32 (.var 0 0 4294967295) (.lit 127)) (.lit 55)), false)]
def exc24 : List Pc := []
theorem start24_yes : startYes Tryd.prog (tabGlob tabs) lawEv 300 lawBody lawFn 17 100000 places24 exc24 (psV lawPs 0) (stTab tabs lawPc24) = true := by kernel_rfl
theorem places24_yes : ∀ p ∈ places24, placeYes Tryd.prog (tabGlob tabs) lawEv 300 lawBody lawFn 17 100000 places24 exc24 p = true :=
  (fun p h => by cases h)
theorem places24_paths : ∀ p ∈ places24, pathsOk p.stk :=
  (fun p h => by cases h)
theorem exc24_no : ∀ q ∈ exc24, ∀ i, ¬ Holds i q := by intro q hq; cases hq
def places30 : List Sx.Place := []
def lawPc30 : Pc := [((.eq (.ar .shr .u32 (.var 0 0 4294967295) (.lit 25)) (.lit 0)), true), ((.eq (.ar .and .u32 (.var 0 0 4294967295) (.lit 127)) (.lit 59)), true), ((.eq (.ar .and .u32 (.var 0 0 4294967295) (.lit 127)) (.lit 27)), false), ((.eq (.ar .and .u32 (.var 0 0 4294967295) (.lit 127)) (.lit 51)), false), ((.eq (.ar .and .u32 (.var 0 0 4294967295) (.lit 127)) (.lit 19)), false), ((.eq (.ar .and .u32 (.var 0 0 4294967295) (.lit 127)) (.lit 35)), false), ((.eq (.ar .and .u32 (.var 0 0 4294967295) (.lit 127)) (.lit 3)), false), ((.eq (.ar .and .u32 (.var 0 0 4294967295) (.lit 127)) (.lit 99)), false), ((.eq (.ar .and .u32 (.var 0 0 4294967295) (.lit 127)) (.lit 103)), false), ((.eq (.ar .and .u32 (.var 0 0 4294967295) (.lit 127)) (.lit 111)), false), ((.eq (.ar .and .u32 (.var 0 0 4294967295) (.lit 127)) (.lit 23)), false), ((.eq (.ar .and .u32 (.var 0 0 4294967295) (.lit 127)) (.lit 55)), false)]
def exc30 : List Pc := []
theorem start30_yes : startYes Tryd.prog (tabGlob tabs) lawEv 300 lawBody lawFn 17 100000 places30 exc30 (psV lawPs 0) (stTab tabs lawPc30) = true := by kernel_rfl
theorem places30_yes : ∀ p ∈ places30, placeYes Tryd.prog (tabGlob tabs) lawEv 300 lawBody lawFn 17 100000 places30 exc30 p = true :=
  (fun p h => by cases h)
theorem places30_paths : ∀ p ∈ places30, pathsOk p.stk :=
  (fun p h => by cases h)
theorem exc30_no : ∀ q ∈ exc30, ∀ i, ¬ Holds i q := by intro q hq; cases hq
def places36 : List Sx.Place := []
def lawPc36 : Pc := [((.eq (.var 0 0 4294967295) (.lit 1048691)), true), ((.eq (.var 0 0 4294967295) (.lit 115)), false), ((.eq (.ar .and .u32 (.var 0 0 4294967295) (.lit 127)) (.lit 115)), true), ((.eq (.ar .and .u32 (.var 0 0 4294967295) (.lit 127)) (.lit 15)), false), ((.eq (.ar .and .u32 (.var 0 0 4294967295) (.lit 127)) (.lit 59)), false), ((.eq (.ar .and .u32 (.var 0 0 4294967295) (.lit 127)) (.lit 27)), false), ((.eq (.ar .and .u32 (.var 0 0 4294967295) (.lit 127)) (.lit 51)), false), ((.eq (.ar .and .u32 (.var 0 0 4294967295) (.lit 127)) (.lit 19)), false), ((.eq (.ar .and .u32 (.var 0 0 4294967295) (.lit 127)) (.lit 35)), false), ((.eq (.ar .and .u32 (.var 0 0 4294967295) (.lit 127)) (.lit 3)), false), ((.eq (.ar .and .u32 (.var 0 0 4294967295) (.lit 127)) (.lit 99)), false), ((.eq (.ar .and .u32 (.var 0 0 4294967295) (.lit 127)) (.lit 103)), false), ((.eq (.ar .and .u32 (.var 0 0 4294967295) (.lit 127)) (.lit 111)), false), ((.eq (.ar .and .u32 (.var 0 0 4294967295) (.lit 127)) (.lit 23)), false), ((.eq (.ar .and .u32 (.var 0 0 4294967295) (.lit 127)) (.lit 55)), false)]
def exc36 : List Pc := []
theorem start36_yes : startYes Tryd.prog (tabGlob tabs) lawEv 300 lawBody lawFn 17 100000 places36 exc36 (psV lawPs 0) (stTab tabs lawPc36) = true := by kernel_rfl
theorem places36_yes : ∀ p ∈ places36, placeYes Tryd.prog (tabGlob tabs) lawEv 300 lawBody lawFn 17 100000 places36 exc36 p = true :=
  (fun p h => by cases h)
theorem places36_paths : ∀ p ∈ places36, pathsOk p.stk :=
  (fun p h => by cases h)
theorem exc36_no : ∀ q ∈ exc36, ∀ i, ¬ Holds i q := by intro q hq; cases hq
def places42 : List Sx.Place := []
def lawPc42 : Pc := [((.eq (.ar .shr .u32 (.var 0 0 4294967295) (.lit 27)) (.lit 0)), true), ((.eq (.ar .and .u32 (.var 0 0 4294967295) (.lit 127)) (.lit 47)), true), ((.eq (.ar .and .u32 (.var 0 0 4294967295) (.lit 127)) (.lit 115)), false), ((.eq (.ar .and .u32 (.var 0 0 4294967295) (.lit 127)) (.lit 15)), false), ((.eq (.ar .and .u32 (.var 0 0 4294967295) (.lit 127)) (.lit 59)), false), ((.eq (.ar .and .u32 (.var 0 0 4294967295) (.lit 127)) (.lit 27)), false), ((.eq (.ar .and .u32 (.var 0 0 4294967295) (.lit 127)) (.lit 51)), false), ((.eq (.ar .and .u32 (.var 0 0 4294967295) (.lit 127)) (.lit 19)), false), ((.eq (.ar .and .u32 (.var 0 0 4294967295) (.lit 127)) (.lit 35)), false), ((.eq (.ar .and .u32 (.var 0 0 4294967295) (.lit 127)) (.lit 3)), false), ((.eq (.ar .and .u32 (.var 0 0 4294967295) (.lit 127)) (.lit 99)), false), ((.eq (.ar .and .u32 (.var 0 0 4294967295) (.lit 127)) (.lit 103)), false), ((.eq (.ar .and .u32 (.var 0 0 4294967295) (.lit 127)) (.lit 111)), false), ((.eq (.ar .and .u32 (.var 0 0 4294967295) (.lit 127)) (.lit 23)), false), ((.eq (.ar .and .u32 (.var 0 0 4294967295) (.lit 127)) (.lit 55)), false)]
def exc42 : List Pc := []
theorem start42_yes : startYes Tryd.prog (tabGlob tabs) lawEv 300 lawBody lawFn 17 100000 places42 exc42 (psV lawPs 0) (stTab tabs lawPc42) = true := by kernel_rfl
theorem places42_yes : ∀ p ∈ places42, placeYes Tryd.prog (tabGlob tabs) lawEv 300 lawBody lawFn 17 100000 places42 exc42 p = true :=
  (fun p h => by cases h)
theorem places42_paths : ∀ p ∈ places42, pathsOk p.stk :=
  (fun p h => by cases h)
theorem exc42_no : ∀ q ∈ exc42, ∀ i, ¬ Holds i q := by intro q hq; cases hq
def places48 : List Sx.Place := []
def lawPc48 : Pc := [((.eq (.ar .shr .u32 (.var 0 0 4294967295) (.lit 27)) (.lit 6)), true), ((.eq (.ar .shr .u32 (.var 0 0 4294967295) (.lit 27)) (.lit 5)), false), ((.eq (.ar .shr .u32 (.var 0 0 4294967295) (.lit 27)) (.lit 4)), false), ((.eq (.ar .shr .u32 (.var 0 0 4294967295) (.lit 27)) (.lit 3)), false), ((.eq (.ar .shr .u32 (.var 0 0 4294967295) (.lit 27)) (.lit 2)), false), ((.eq (.ar .shr .u32 (.var 0 0 4294967295) (.lit 27)) (.lit 1)), false), ((.eq (.ar .shr .u32 (.var 0 0 4294967295) (.lit 27)) (.lit 0)), false), ((.eq (.ar .and .u32 (.var 0 0 4294967295) (.lit 127)) (.lit 47)), true), ((.eq (.ar .and .u32 (.var 0 0 4294967295) (.lit 127)) (.lit 115)), false), ((.eq (.ar .and .u32 (.var 0 0 4294967295) (.lit 127)) (.lit 15)), false), ((.eq (.ar .and .u32 (.var 0 0 4294967295) (.lit 127)) (.lit 59)), false), ((.eq (.ar .and .u32 (.var 0 0 4294967295) (.lit 127)) (.lit 27)), false), ((.eq (.ar .and .u32 (.var 0 0 4294967295) (.lit 127)) (.lit 51)), false), ((.eq (.ar .and .u32 (.var 0 0 4294967295) (.lit 127)) (.lit 19)), false), ((.eq (.ar .and .u32 (.var 0 0 4294967295) (.lit 127)) (.lit 35)), false), ((.eq (.ar .and .u32 (.var 0 0 4294967295) (.lit 127)) (.lit 3)), false), ((.eq (.ar .and .u32 (.var 0 0 4294967295) (.lit 127)) (.lit 99)), false), ((.eq (.ar .and .u32 (.var 0 0 4294967295) (.lit 127)) (.lit 103)), false), ((.eq (.ar .and .u32 (.var 0 0 4294967295) (.lit 127)) (.lit 111)), false), ((.eq (.ar .and .u32 (.var 0 0 4294967295) (.lit 127)) (.lit 23)), false), ((.eq (.ar .and .u32 (.var 0 0 4294967295) (.lit 127)) (.lit 55)), false)]
def exc48 : List Pc := []
theorem start48_yes : startYes Tryd.prog (tabGlob tabs) lawEv 300 lawBody lawFn 17 100000 places48 exc48 (psV lawPs 0) (stTab tabs lawPc48) = true := by kernel_rfl
theorem places48_yes : ∀ p ∈ places48, placeYes Tryd.prog (tabGlob tabs) lawEv 300 lawBody lawFn 17 100000 places48 exc48 p = true :=
  (fun p h => by cases h)
theorem places48_paths : ∀ p ∈ places48, pathsOk p.stk :=
  (fun p h => by cases h)
theorem exc48_no : ∀ q ∈ exc48, ∀ i, ¬ Holds i q := by intro q hq; cases hq
def places54 : List Sx.Place := []
def lawPc54 : Pc := [((.eq (.ar .shr .u32 (.var 0 0 4294967295) (.lit 27)) (.lit 12)), true), ((.eq (.ar .shr .u32 (.var 0 0 4294967295) (.lit 27)) (.lit 11)), false), ((.eq (.ar .shr .u32 (.var 0 0 4294967295) (.lit 27)) (.lit 10)), false), ((.eq (.ar .shr .u32 (.var 0 0 4294967295) (.lit 27)) (.lit 9)), false), ((.eq (.ar .shr .u32 (.var 0 0 4294967295) (.lit 27)) (.lit 8)), false), ((.eq (.ar .shr .u32 (.var 0 0 4294967295) (.lit 27)) (.lit 7)), false), ((.eq (.ar .shr .u32 (.var 0 0 4294967295) (.lit 27)) (.lit 6)), false), ((.eq (.ar .shr .u32 (.var 0 0 4294967295) (.lit 27)) (.lit 5)), false), ((.eq (.ar .shr .u32 (.var 0 0 4294967295) (.lit 27)) (.lit 4)), false), ((.eq (.ar .shr .u32 (.var 0 0 4294967295) (.lit 27)) (.lit 3)), false), ((.eq (.ar .shr .u32 (.var 0 0 4294967295) (.lit 27)) (.lit 2)), false), ((.eq (.ar .shr .u32 (.var 0 0 4294967295) (.lit 27)) (.lit 1)), false), ((.eq (.ar .shr .u32 (.var 0 0 4294967295) (.lit 27)) (.lit 0)), false), ((.eq (.ar .and .u32 (.var 0 0 4294967295) (.lit 127)) (.lit 47)), true), ((.eq (.ar .and .u32 (.var 0 0 4294967295) (.lit 127)) (.lit 115)), false), ((.eq (.ar .and .u32 (.var 0 0 4294967295) (.lit 127)) (.lit 15)), false), ((.eq (.ar .and .u32 (.var 0 0 4294967295) (.lit 127)) (.lit 59)), false), ((.eq (.ar .and .u32 (.var 0 0 4294967295) (.lit 127)) (.lit 27)), false), ((.eq (.ar .and .u32 (.var 0 0 4294967295) (.lit 127)) (.lit 51)), false), ((.eq (.ar .and .u32 (.var 0 0 4294967295) (.lit 127)) (.lit 19)), false), ((.eq (.ar .and .u32 (.var 0 0 4294967295) (.lit 127)) (.lit 35)), false), ((.eq (.ar .and .u32 (.var 0 0 4294967295) (.lit 127)) (.lit 3)), false), ((.eq (.ar .and .u32 (.var 0 0 4294967295) (.lit 127)) (.lit 99)), false), ((.eq (.ar .and .u32 (.var 0 0 4294967295) (.lit 127)) (.lit 103)), false), ((.eq (.ar .and .u32 (.var 0 0 4294967295) (.lit 127)) (.lit 111)), false), ((.eq (.ar .and .u32 (.var 0 0 4294967295) (.lit 127)) (.lit 23)), false), ((.eq (.ar .and .u32 (.var 0 0 4294967295) (.lit 127)) (.lit 55)), false)]
def exc54 : List Pc := []
theorem start54_yes : startYes Tryd.prog (tabGlob tabs) lawEv 300 lawBody lawFn 17 100000 places54 exc54 (psV lawPs 0) (stTab tabs lawPc54) = true := by kernel_rfl
theorem places54_yes : ∀ p ∈ places54, placeYes Tryd.prog (tabGlob tabs) lawEv 300 lawBody lawFn 17 100000 places54 exc54 p = true :=
  (fun p h => by cases h)
theorem places54_paths : ∀ p ∈ places54, pathsOk p.stk :=
  (fun p h => by cases h)
theorem exc54_no : ∀ q ∈ exc54, ∀ i, ¬ Holds i q := by intro q hq; cases hq
def places60 : List Sx.Place := []
def lawPc60 : Pc := [((.eq (.ar .shr .u32 (.var 0 0 4294967295) (.lit 27)) (.lit 18)), true), ((.eq (.ar .shr .u32 (.var 0 0 4294967295) (.lit 27)) (.lit 17)), false), ((.eq (.ar .shr .u32 (.var 0 0 4294967295) (.lit 27)) (.lit 16)), false), ((.eq (.ar .shr .u32 (.var 0 0 4294967295) (.lit 27)) (.lit 15)), false), ((.eq (.ar .shr .u32 (.var 0 0 4294967295) (.lit 27)) (.lit 14)), false), ((.eq (.ar .shr .u32 (.var 0 0 4294967295) (.lit 27)) (.lit 13)), false), ((.eq (.ar .shr .u32 (.var 0 0 4294967295) (.lit 27)) (.lit 12)), false), ((.eq (.ar .shr .u32 (.var 0 0 4294967295) (.lit 27)) (.lit 11)), false), ((.eq (.ar .shr .u32 (.var 0 0 4294967295) (.lit 27)) (.lit 10)), false), ((.eq (.ar .shr .u32 (.var 0 0 4294967295) (.lit 27)) (.lit 9)), false), ((.eq (.ar .shr .u32 (.var 0 0 4294967295) (.lit 27)) (.lit 8)), false), ((.eq (.ar .shr .u32 (.var 0 0 4294967295) (.lit 27)) (.lit 7)), false), ((.eq (.ar .shr .u32 (.var 0 0 4294967295) (.lit 27)) (.lit 6)), false), ((.eq (.ar .shr .u32 (.var 0 0 4294967295) (.lit 27)) (.lit 5)), false), ((.eq (.ar .shr .u32 (.var 0 0 4294967295) (.lit 27)) (.lit 4)), false), ((.eq (.ar .shr .u32 (.var 0 0 4294967295) (.lit 27)) (.lit 3)), false), ((.eq (.ar .shr .u32 (.var 0 0 4294967295) (.lit 27)) (.lit 2)), false), ((.eq (.ar .shr .u32 (.var 0 0 4294967295) (.lit 27)) (.lit 1)), false), ((.eq (.ar .shr .u32 (.var 0 0 4294967295) (.lit 27)) (.lit 0)), false), ((.eq (.ar .and .u32 (.var 0 0 4294967295) (.lit 127)) (.lit 47)), true), ((.eq (.ar .and .u32 (.var 0 0 4294967295) (.lit 127)) (.lit 115)), false), ((.eq (.ar .and .u32 (.var 0 0 4294967295) (.lit 127)) (.lit 15)), false), ((.eq (.ar .and .u32 (.var 0 0 4294967295) (.lit 127)) (.lit 59)), false), ((.eq (.ar .and .u32 (.var 0 0 4294967295) (.lit 127)) (.lit 27)), false), ((.eq (.ar .and .u32 (.var 0 0 4294967295) (.lit 127)) (.lit 51)), false), ((.eq (.ar .and .u32 (.var 0 0 4294967295) (.lit 127)) (.lit 19)), false), ((.eq (.ar .and .u32 (.var 0 0 4294967295) (.lit 127)) (.lit 35)), false), ((.eq (.ar .and .u32 (.var 0 0 4294967295) (.lit 127)) (.lit 3)), false), ((.eq (.ar .and .u32 (.var 0 0 4294967295) (.lit 127)) (.lit 99)), false), ((.eq (.ar .and .u32 (.var 0 0 4294967295) (.lit 127)) (.lit 103)), false), ((.eq (.ar .and .u32 (.var 0 0 4294967295) (.lit 127)) (.lit 111)), false), ((.eq (.ar .and .u32 (.var 0 0 4294967295) (.lit 127)) (.lit 23)), false), ((.eq (.ar .and .u32 (.var 0 0 4294967295) (.lit 127)) (.lit 55)), false)]
def exc60 : List Pc := []
theorem start60_yes : startYes Tryd.prog (tabGlob tabs) lawEv 300 lawBody lawFn 17 100000 places60 exc60 (psV lawPs 0) (stTab tabs lawPc60) = true := by kernel_rfl
theorem places60_yes : ∀ p ∈ places60, placeYes Tryd.prog (tabGlob tabs) lawEv 300 lawBody lawFn 17 100000 places60 exc60 p = true :=
  (fun p h => by cases h)
theorem places60_paths : ∀ p ∈ places60, pathsOk p.stk :=
  (fun p h => by cases h)
theorem exc60_no : ∀ q ∈ exc60, ∀ i, ¬ Holds i q := by intro q hq; cases hq
def places66 : List Sx.Place := []
def lawPc66 : Pc := [((.eq (.ar .shr .u32 (.var 0 0 4294967295) (.lit 27)) (.lit 24)), true), ((.eq (.ar .shr .u32 (.var 0 0 4294967295) (.lit 27)) (.lit 23)), false), ((.eq (.ar .shr .u32 (.var 0 0 4294967295) (.lit 27)) (.lit 22)), false), ((.eq (.ar .shr .u32 (.var 0 0 4294967295) (.lit 27)) (.lit 21)), false), ((.eq (.ar .shr .u32 (.var 0 0 4294967295) (.lit 27)) (.lit 20)), false), ((.eq (.ar .shr .u32 (.var 0 0 4294967295) (.lit 27)) (.lit 19)), false), ((.eq (.ar .shr .u32 (.var 0 0 4294967295) (.lit 27)) (.lit 18)), false), ((.eq (.ar .shr .u32 (.var 0 0 4294967295) (.lit 27)) (.lit 17)), false), ((.eq (.ar .shr .u32 (.var 0 0 4294967295) (.lit 27)) (.lit 16)), false), ((.eq (.ar .shr .u32 (.var 0 0 4294967295) (.lit 27)) (.lit 15)), false), ((.eq (.ar .shr .u32 (.var 0 0 4294967295) (.lit 27)) (.lit 14)), false), ((.eq (.ar .shr .u32 (.var 0 0 4294967295) (.lit 27)) (.lit 13)), false), ((.eq (.ar .shr .u32 (.var 0 0 4294967295) (.lit 27)) (.lit 12)), false), ((.eq (.ar .shr .u32 (.var 0 0 4294967295) (.lit 27)) (.lit 11)), false), ((.eq (.ar .shr .u32 (.var 0 0 4294967295) (.lit 27)) (.lit 10)), false), ((.eq (.ar .shr .u32 (.var 0 0 4294967295) (.lit 27)) (.lit 9)), false), ((.eq (.ar .shr .u32 (.var 0 0 4294967295) (.lit 27)) (.lit 8)), false), ((.eq (.ar .shr .u32 (.var 0 0 4294967295) (.lit 27)) (.lit 7)), false), ((.eq (.ar .shr .u32 (.var 0 0 4294967295) (.lit 27)) (.lit 6)), false), ((.eq (.ar .shr .u32 (.var 0 0 4294967295) (.lit 27)) (.lit 5)), false), ((.eq (.ar .shr .u32 (.var 0 0 4294967295) (.lit 27)) (.lit 4)), false), ((.eq (.ar .shr .u32 (.var 0 0 4294967295) (.lit 27)) (.lit 3)), false), ((.eq (.ar .shr .u32 (.var 0 0 4294967295) (.lit 27)) (.lit 2)), false), ((.eq (.ar .shr .u32 (.var 0 0 4294967295) (.lit 27)) (.lit 1)), false), ((.eq (.ar .shr .u32 (.var 0 0 4294967295) (.lit 27)) (.lit 0)), false), ((.eq (.ar .and .u32 (.var 0 0 4294967295) (.lit 127)) (.lit 47)), true), ((.eq (.ar .and .u32 (.var 0 0 4294967295) (.lit 127)) (.lit 115)), false), ((.eq (.ar .and .u32 (.var 0 0 4294967295) (.lit 127)) (.lit 15)), false), ((.eq (.ar .and .u32 (.var 0 0 4294967295) (.lit 127)) (.lit 59)), false), ((.eq (.ar .and .u32 (.var 0 0 4294967295) (.lit 127)) (.lit 27)), false), ((.eq (.ar .and .u32 (.var 0 0 4294967295) (.lit 127)) (.lit 51)), false), ((.eq (.ar .and .u32 (.var 0 0 4294967295) (.lit 127)) (.lit 19)), false), ((.eq (.ar .and .u32 (.var 0 0 4294967295) (.lit 127)) (.lit 35)), false), ((.eq (.ar .and .u32 (.var 0 0 4294967295) (.lit 127)) (.lit 3)), false), ((.eq (.ar .and .u32 (.var 0 0 4294967295) (.lit 127)) (.lit 99)), false), ((.eq (.ar .and .u32 (.var 0 0 4294967295) (.lit 127)) (.lit 103)), false), ((.eq (.ar .and .u32 (.var 0 0 4294967295) (.lit 127)) (.lit 111)), false), ((.eq (.ar .and .u32 (.var 0 0 4294967295) (.lit 127)) (.lit 23)), false), ((.eq (.ar .and .u32 (.var 0 0 4294967295) (.lit 127)) (.lit 55)), false)]
def exc66 : List Pc := []
theorem start66_yes : startYes Tryd.prog (tabGlob tabs) lawEv 300 lawBody lawFn 17 100000 places66 exc66 (psV lawPs 0) (stTab tabs lawPc66) = true := by kernel_rfl
theorem places66_yes : ∀ p ∈ places66, placeYes Tryd.prog (tabGlob tabs) lawEv 300 lawBody lawFn 17 100000 places66 exc66 p = true :=
  (fun p h => by cases h)
theorem places66_paths : ∀ p ∈ places66, pathsOk p.stk :=
  (fun p h => by cases h)
theorem exc66_no : ∀ q ∈ exc66, ∀ i, ¬ Holds i q := by intro q hq; cases hq
end
end Go.Proofs.YtedmbiadbofaoaaDoor.Sx
