/- InstDecodes: a part of its cases. -/
import Derived.Test.YtedmbiadbofaoaaDoorUInstDecodes
namespace Go.Proofs.YtedmbiadbofaoaaDoor.Sx
open Go
noncomputable section
set_option maxRecDepth 100000
def places5 : List Sx.Place := []
def lawPc5 : Pc := [((.eq (.ar .and .u32 (.ar .shr .u32 (.var 0 0 4294967295) (.lit 12)) (.lit 7)) (.lit 1)), true), ((.eq (.ar .and .u32 (.ar .shr .u32 (.var 0 0 4294967295) (.lit 12)) (.lit 7)) (.lit 0)), false), ((.eq (.ar .and .u32 (.var 0 0 4294967295) (.lit 127)) (.lit 99)), true), ((.eq (.ar .and .u32 (.var 0 0 4294967295) (.lit 127)) (.lit 103)), false), ((.eq (.ar .and .u32 (.var 0 0 4294967295) (.lit 127)) (.lit 111)), false), ((.eq (.ar .and .u32 (.var 0 0 4294967295) (.lit 127)) (.lit 23)), false), ((.eq (.ar .and .u32 (.var 0 0 4294967295) (.lit 127)) (.lit 55)), false)]
def exc5 : List Pc := []
theorem start5_yes : startYes Tryd.prog (tabGlob tabs) lawEv 300 lawBody lawFn 17 100000 places5 exc5 (psV lawPs 0) (stTab tabs lawPc5) = true := by kernel_rfl
theorem places5_yes : ∀ p ∈ places5, placeYes Tryd.prog (tabGlob tabs) lawEv 300 lawBody lawFn 17 100000 places5 exc5 p = true :=
  (fun p h => by cases h)
theorem places5_paths : ∀ p ∈ places5, pathsOk p.stk :=
  (fun p h => by cases h)
theorem exc5_no : ∀ q ∈ exc5, ∀ i, ¬ Holds i q := by intro q hq; cases hq
def places11 : List Sx.Place := []
def lawPc11 : Pc := [((.eq (.ar .and .u32 (.ar .shr .u32 (.var 0 0 4294967295) (.lit 12)) (.lit 7)) (.lit 2)), true), ((.eq (.ar .and .u32 (.ar .shr .u32 (.var 0 0 4294967295) (.lit 12)) (.lit 7)) (.lit 1)), false), ((.eq (.ar .and .u32 (.ar .shr .u32 (.var 0 0 4294967295) (.lit 12)) (.lit 7)) (.lit 0)), false), ((.eq (.ar .and .u32 (.var 0 0 4294967295) (.lit 127)) (.lit 3)), true), ((.eq (.ar .and .u32 (.var 0 0 4294967295) (.lit 127)) (.lit 99)), false), ((.eq (.ar .and .u32 (.var 0 0 4294967295) (.lit 127)) (.lit 103)), false), ((.eq (.ar .and .u32 (.var 0 0 4294967295) (.lit 127)) (.lit 111)), false), ((.eq (.ar .and .u32 (.var 0 0 4294967295) (.lit 127)) (.lit 23)), false), ((.eq (.ar .and .u32 (.var 0 0 4294967295) (.lit 127)) (.lit 55)), false)]
def exc11 : List Pc := []
theorem start11_yes : startYes Tryd.prog (tabGlob tabs) lawEv 300 lawBody lawFn 17 100000 places11 exc11 (psV lawPs 0) (stTab tabs lawPc11) = true := by kernel_rfl
theorem places11_yes : ∀ p ∈ places11, placeYes Tryd.prog (tabGlob tabs) lawEv 300 lawBody lawFn 17 100000 places11 exc11 p = true :=
  (fun p h => by cases h)
theorem places11_paths : ∀ p ∈ places11, pathsOk p.stk :=
  (fun p h => by cases h)
theorem exc11_no : ∀ q ∈ exc11, ∀ i, ¬ Holds i q := by intro q hq; cases hq
def places17 : List Sx.Place := []
def lawPc17 : Pc := [((.eq (.ar .and .u32 (.ar .shr .u32 (.var 0 0 4294967295) (.lit 12)) (.lit 7)) (.lit 0)), true), ((.eq (.ar .and .u32 (.var 0 0 4294967295) (.lit 127)) (.lit 19)), true), ((.eq (.ar .and .u32 (.var 0 0 4294967295) (.lit 127)) (.lit 35)), false), ((.eq (.ar .and .u32 (.var 0 0 4294967295) (.lit 127)) (.lit 3)), false), ((.eq (.ar .and .u32 (.var 0 0 4294967295) (.lit 127)) (.lit 99)), false), ((.eq (.ar .and .u32 (.var 0 0 4294967295) (.lit 127)) (.lit 103)), false), ((.eq (.ar .and .u32 (.var 0 0 4294967295) (.lit 127)) (.lit 111)), false), ((.eq (.ar .and .u32 (.var 0 0 4294967295) (.lit 127)) (.lit 23)), false), ((.eq (.ar .and .u32 (.var 0 0 4294967295) (.lit 127)) (.lit 55)), false)]
def exc17 : List Pc := []
theorem start17_yes : startYes Tryd.prog (tabGlob tabs) lawEv 300 lawBody lawFn 17 100000 places17 exc17 (psV lawPs 0) (stTab tabs lawPc17) = true := by kernel_rfl
theorem places17_yes : ∀ p ∈ places17, placeYes Tryd.prog (tabGlob tabs) lawEv 300 lawBody lawFn 17 100000 places17 exc17 p = true :=
  (fun p h => by cases h)
theorem places17_paths : ∀ p ∈ places17, pathsOk p.stk :=
  (fun p h => by cases h)
theorem exc17_no : ∀ q ∈ exc17, ∀ i, ¬ Holds i q := by intro q hq; cases hq
def places23 : List Sx.Place := []
def lawPc23 : Pc := [((.eq (.ar .shr .u32 (.var 0 0 4294967295) (.lit 25)) (.lit 0)), true), ((.eq (.ar .and .u32 (.var 0 0 4294967295) (.lit 127)) (.lit 51)), true), ((.eq (.ar .and .u32 (.var 0 0 4294967295) (.lit 127)) (.lit 19)), false), ((.eq (.ar .and .u32 (.var 0 0 4294967295) (.lit 127)) (.lit 35)), false), ((.eq (.ar .and .u32 (.var 0 0 4294967295) (.lit 127)) (.lit 3)), false), ((.eq (.ar .and .u32 (.var 0 0 4294967295) (.lit 127)) (.lit 99)), false), ((.eq (.ar .and .u32 (.var 0 0 4294967295) (.lit 127)) (.lit 103)), false), ((.eq (.ar .and .u32 (.var 0 0 4294967295) (.lit 127)) (.lit 111)), false), ((.eq (.ar .and .u32 (.var 0 0 4294967295) (.lit 127)) (.lit 23)), false), ((.eq (.ar .and .u32 (.var 0 0 4294967295) (.lit 127)) (.lit 55)), false)]
def exc23 : List Pc := []
theorem start23_yes : startYes Tryd.prog (tabGlob tabs) lawEv 300 lawBody lawFn 17 100000 places23 exc23 (psV lawPs 0) (stTab tabs lawPc23) = true := by kernel_rfl
theorem places23_yes : ∀ p ∈ places23, placeYes Tryd.prog (tabGlob tabs) lawEv 300 lawBody lawFn 17 100000 places23 exc23 p = true :=
  (fun p h => by cases h)
theorem places23_paths : ∀ p ∈ places23, pathsOk p.stk :=
  (fun p h => by cases h)
theorem exc23_no : ∀ q ∈ exc23, ∀ i, ¬ Holds i q := by intro q hq; cases hq
def places29 : List Sx.Place := []
def lawPc29 : Pc := [((.eq (.ar .shr .u32 (.var 0 0 4294967295) (.lit 25)) (.lit 0)), false), ((.eq (.ar .and .u32 (.ar .shr .u32 (.var 0 0 4294967295) (.lit 12)) (.lit 7)) (.lit 0)), false), ((.eq (.ar .and .u32 (.var 0 0 4294967295) (.lit 127)) (.lit 27)), true), ((.eq (.ar .and .u32 (.var 0 0 4294967295) (.lit 127)) (.lit 51)), false), ((.eq (.ar .and .u32 (.var 0 0 4294967295) (.lit 127)) (.lit 19)), false), ((.eq (.ar .and .u32 (.var 0 0 4294967295) (.lit 127)) (.lit 35)), false), ((.eq (.ar .and .u32 (.var 0 0 4294967295) (.lit 127)) (.lit 3)), false), ((.eq (.ar .and .u32 (.var 0 0 4294967295) (.lit 127)) (.lit 99)), false), ((.eq (.ar .and .u32 (.var 0 0 4294967295) (.lit 127)) (.lit 103)), false), ((.eq (.ar .and .u32 (.var 0 0 4294967295) (.lit 127)) (.lit 111)), false), ((.eq (.ar .and .u32 (.var 0 0 4294967295) (.lit 127)) (.lit 23)), false), ((.eq (.ar .and .u32 (.var 0 0 4294967295) (.lit 127)) (.lit 55)), false)]
def exc29 : List Pc := []
theorem start29_yes : startYes Tryd.prog (tabGlob tabs) lawEv 300 lawBody lawFn 17 100000 places29 exc29 (psV lawPs 0) (stTab tabs lawPc29) = true := by kernel_rfl
theorem places29_yes : ∀ p ∈ places29, placeYes Tryd.prog (tabGlob tabs) lawEv 300 lawBody lawFn 17 100000 places29 exc29 p = true :=
  (fun p h => by cases h)
theorem places29_paths : ∀ p ∈ places29, pathsOk p.stk :=
  (fun p h => by cases h)
theorem exc29_no : ∀ q ∈ exc29, ∀ i, ¬ Holds i q := by intro q hq; cases hq
def places35 : List Sx.Place := []
def lawPc35 : Pc := [((.eq (.var 0 0 4294967295) (.lit 115)), true), ((.eq (.ar .and .u32 (.var 0 0 4294967295) (.lit 127)) (.lit 115)), true), ((.eq (.ar .and .u32 (.var 0 0 4294967295) (.lit 127)) (.lit 15)), false), ((.eq (.ar .and .u32 (.var 0 0 4294967295) (.lit 127)) (.lit 59)), false), ((.eq (.ar .and .u32 (.var 0 0 4294967295) (.lit 127)) (.lit 27)), false), ((.eq (.ar .and .u32 (.var 0 0 4294967295) (.lit 127)) (.lit 51)), false), ((.eq (.ar .and .u32 (.var 0 0 4294967295) (.lit 127)) (.lit 19)), false), ((.eq (.ar .and .u32 (.var 0 0 4294967295) (.lit 127)) (.lit 35)), false), ((.eq (.ar .and .u32 (.var 0 0 4294967295) (.lit 127)) (.lit 3)), false), ((.eq (.ar .and .u32 (.var 0 0 4294967295) (.lit 127)) (.lit 99)), false), ((.eq (.ar .and .u32 (.var 0 0 4294967295) (.lit 127)) (.lit 103)), false), ((.eq (.ar .and .u32 (.var 0 0 4294967295) (.lit 127)) (.lit 111)), false), ((.eq (.ar .and .u32 (.var 0 0 4294967295) (.lit 127)) (.lit 23)), false), ((.eq (.ar .and .u32 (.var 0 0 4294967295) (.lit 127)) (.lit 55)), false)]
def exc35 : List Pc := []
theorem start35_yes : startYes Tryd.prog (tabGlob tabs) lawEv 300 lawBody lawFn 17 100000 places35 exc35 (psV lawPs 0) (stTab tabs lawPc35) = true := by kernel_rfl
theorem places35_yes : ∀ p ∈ places35, placeYes Tryd.prog (tabGlob tabs) lawEv 300 lawBody lawFn 17 100000 places35 exc35 p = true :=
  (fun p h => by cases h)
theorem places35_paths : ∀ p ∈ places35, pathsOk p.stk :=
  (fun p h => by cases h)
theorem exc35_no : ∀ q ∈ exc35, ∀ i, ¬ Holds i q := by intro q hq; cases hq
def places41 : List Sx.Place := []
def lawPc41 : Pc := [((.eq (.ar .and .u32 (.ar .shr .u32 (.var 0 0 4294967295) (.lit 12)) (.lit 7)) (.lit 0)), false), ((.eq (.var 0 0 4294967295) (.lit 807403635)), false), ((.eq (.var 0 0 4294967295) (.lit 273678451)), false), ((.eq (.var 0 0 4294967295) (.lit 270532723)), false), ((.eq (.var 0 0 4294967295) (.lit 1048691)), false), ((.eq (.var 0 0 4294967295) (.lit 115)), false), ((.eq (.ar .and .u32 (.var 0 0 4294967295) (.lit 127)) (.lit 115)), true), ((.eq (.ar .and .u32 (.var 0 0 4294967295) (.lit 127)) (.lit 15)), false), ((.eq (.ar .and .u32 (.var 0 0 4294967295) (.lit 127)) (.lit 59)), false), ((.eq (.ar .and .u32 (.var 0 0 4294967295) (.lit 127)) (.lit 27)), false), ((.eq (.ar .and .u32 (.var 0 0 4294967295) (.lit 127)) (.lit 51)), false), ((.eq (.ar .and .u32 (.var 0 0 4294967295) (.lit 127)) (.lit 19)), false), ((.eq (.ar .and .u32 (.var 0 0 4294967295) (.lit 127)) (.lit 35)), false), ((.eq (.ar .and .u32 (.var 0 0 4294967295) (.lit 127)) (.lit 3)), false), ((.eq (.ar .and .u32 (.var 0 0 4294967295) (.lit 127)) (.lit 99)), false), ((.eq (.ar .and .u32 (.var 0 0 4294967295) (.lit 127)) (.lit 103)), false), ((.eq (.ar .and .u32 (.var 0 0 4294967295) (.lit 127)) (.lit 111)), false), ((.eq (.ar .and .u32 (.var 0 0 4294967295) (.lit 127)) (.lit 23)), false), ((.eq (.ar .and .u32 (.var 0 0 4294967295) (.lit 127)) (.lit 55)), false)]
def exc41 : List Pc := []
theorem start41_yes : startYes Tryd.prog (tabGlob tabs) lawEv 300 lawBody lawFn 17 100000 places41 exc41 (psV lawPs 0) (stTab tabs lawPc41) = true := by kernel_rfl
theorem places41_yes : ∀ p ∈ places41, placeYes Tryd.prog (tabGlob tabs) lawEv 300 lawBody lawFn 17 100000 places41 exc41 p = true :=
  (fun p h => by cases h)
theorem places41_paths : ∀ p ∈ places41, pathsOk p.stk :=
  (fun p h => by cases h)
theorem exc41_no : ∀ q ∈ exc41, ∀ i, ¬ Holds i q := by intro q hq; cases hq
def places47 : List Sx.Place := []
def lawPc47 : Pc := [((.eq (.ar .shr .u32 (.var 0 0 4294967295) (.lit 27)) (.lit 5)), true), ((.eq (.ar .shr .u32 (.var 0 0 4294967295) (.lit 27)) (.lit 4)), false), ((.eq (.ar .shr .u32 (.var 0 0 4294967295) (.lit 27)) (.lit 3)), false), ((.eq (.ar .shr .u32 (.var 0 0 4294967295) (.lit 27)) (.lit 2)), false), ((.eq (.ar .shr .u32 (.var 0 0 4294967295) (.lit 27)) (.lit 1)), false), ((.eq (.ar .shr .u32 (.var 0 0 4294967295) (.lit 27)) (.lit 0)), false), ((.eq (.ar .and .u32 (.var 0 0 4294967295) (.lit 127)) (.lit 47)), true), ((.eq (.ar .and .u32 (.var 0 0 4294967295) (.lit 127)) (.lit 115)), false), ((.eq (.ar .and .u32 (.var 0 0 4294967295) (.lit 127)) (.lit 15)), false), ((.eq (.ar .and .u32 (.var 0 0 4294967295) (.lit 127)) (.lit 59)), false), ((.eq (.ar .and .u32 (.var 0 0 4294967295) (.lit 127)) (.lit 27)), false), ((.eq (.ar .and .u32 (.var 0 0 4294967295) (.lit 127)) (.lit 51)), false), ((.eq (.ar .and .u32 (.var 0 0 4294967295) (.lit 127)) (.lit 19)), false), ((.eq (.ar .and .u32 (.var 0 0 4294967295) (.lit 127)) (.lit 35)), false), ((.eq (.ar .and .u32 (.var 0 0 4294967295) (.lit 127)) (.lit 3)), false), ((.eq (.ar .and .u32 (.var 0 0 4294967295) (.lit 127)) (.lit 99)), false), ((.eq (.ar .and .u32 (.var 0 0 4294967295) (.lit 127)) (.lit 103)), false), ((.eq (.ar .and .u32 (.var 0 0 4294967295) (.lit 127)) (.lit 111)), false), ((.eq (.ar .and .u32 (.var 0 0 4294967295) (.lit 127)) (.lit 23)), false), ((.eq (.ar .and .u32 (.var 0 0 4294967295) (.lit 127)) (.lit 55)), false)]
def exc47 : List Pc := []
theorem start47_yes : startYes Tryd.prog (tabGlob tabs) lawEv 300 lawBody lawFn 17 100000 places47 exc47 (psV lawPs 0) (stTab tabs lawPc47) = true := by kernel_rfl
theorem places47_yes : ∀ p ∈ places47, placeYes Tryd.prog (tabGlob tabs) lawEv 300 lawBody lawFn 17 100000 places47 exc47 p = true :=
  (fun p h => by cases h)
theorem places47_paths : ∀ p ∈ places47, pathsOk p.stk :=
  (fun p h => by cases h)
theorem exc47_no : ∀ q ∈ exc47, ∀ i, ¬ Holds i q := by intro q hq; cases hq
def places53 : List Sx.Place := []
def lawPc53 : Pc := [((.eq (.ar .shr .u32 (.var 0 0 4294967295) (.lit 27)) (.lit 11)), true), ((.eq (.ar .shr .u32 (.var 0 0 4294967295) (.lit 27)) (.lit 10)), false), ((.eq (.ar .shr .u32 (.var 0 0 4294967295) (.lit 27)) (.lit 9)), false), ((.eq (.ar .shr .u32 (.var 0 0 4294967295) (.lit 27)) (.lit 8)), false), ((.eq (.ar .shr .u32 (.var 0 0 4294967295) (.lit 27)) (.lit 7)), false), ((.eq (.ar .shr .u32 (.var 0 0 4294967295) (.lit 27)) (.lit 6)), false), ((.eq (.ar .shr .u32 (.var 0 0 4294967295) (.lit 27)) (.lit 5)), false), ((.eq (.ar .shr .u32 (.var 0 0 4294967295) (.lit 27)) (.lit 4)), false), ((.eq (.ar .shr .u32 (.var 0 0 4294967295) (.lit 27)) (.lit 3)), false), ((.eq (.ar .shr .u32 (.var 0 0 4294967295) (.lit 27)) (.lit 2)), false), ((.eq (.ar .shr .u32 (.var 0 0 4294967295) (.lit 27)) (.lit 1)), false), ((.eq (.ar .shr .u32 (.var 0 0 4294967295) (.lit 27)) (.lit 0)), false), ((.eq (.ar .and .u32 (.var 0 0 4294967295) (.lit 127)) (.lit 47)), true), ((.eq (.ar .and .u32 (.var 0 0 4294967295) (.lit 127)) (.lit 115)), false), ((.eq (.ar .and .u32 (.var 0 0 4294967295) (.lit 127)) (.lit 15)), false), ((.eq (.ar .and .u32 (.var 0 0 4294967295) (.lit 127)) (.lit 59)), false), ((.eq (.ar .and .u32 (.var 0 0 4294967295) (.lit 127)) (.lit 27)), false), ((.eq (.ar .and .u32 (.var 0 0 4294967295) (.lit 127)) (.lit 51)), false), ((.eq (.ar .and .u32 (.var 0 0 4294967295) (.lit 127)) (.lit 19)), false), ((.eq (.ar .and .u32 (.var 0 0 4294967295) (.lit 127)) (.lit 35)), false), ((.eq (.ar .and .u32 (.var 0 0 4294967295) (.lit 127)) (.lit 3)), false), ((.eq (.ar .and .u32 (.var 0 0 4294967295) (.lit 127)) (.lit 99)), false), ((.eq (.ar .and .u32 (.var 0 0 4294967295) (.lit 127)) (.lit 103)), false), ((.eq (.ar .and .u32 (.var 0 0 4294967295) (.lit 127)) (.lit 111)), false), ((.eq (.ar .and .u32 (.var 0 0 4294967295) (.lit 127)) (.lit 23)), false), ((.eq (.ar .and .u32 (.var 0 0 4294967295) (.lit 127)) (.lit 55)), false)]
def exc53 : List Pc := []
theorem start53_yes : startYes Tryd.prog (tabGlob tabs) lawEv 300 lawBody lawFn 17 100000 places53 exc53 (psV lawPs 0) (stTab tabs lawPc53) = true := by kernel_rfl
theorem places53_yes : ∀ p ∈ places53, placeYes Tryd.prog (tabGlob tabs) lawEv 300 lawBody lawFn 17 100000 places53 exc53 p = true :=
  (fun p h => by cases h)
theorem places53_paths : ∀ p ∈ places53, pathsOk p.stk :=
  (fun p h => by cases h)
theorem exc53_no : ∀ q ∈ exc53, ∀ i, ¬ Holds i q := by intro q hq; cases hq
def places59 : List Sx.Place := []
def lawPc59 : Pc := [((.eq (.ar .shr .u32 (.var 0 0 4294967295) (.lit 27)) (.lit 17)), true), ((.eq (.ar .shr .u32 (.var 0 0 4294967295) (.lit 27)) (.lit 16)), false), ((.eq (.ar .shr .u32 (.var 0 0 4294967295) (.lit 27)) (.lit 15)), false), ((.eq (.ar .shr .u32 (.var 0 0 4294967295) (.lit 27)) (.lit 14)), false), ((.eq (.ar .shr .u32 (.var 0 0 4294967295) (.lit 27)) (.lit 13)), false), ((.eq (.ar .shr .u32 (.var 0 0 4294967295) (.lit 27)) (.lit 12)), false), ((.eq (.ar .shr .u32 (.var 0 0 4294967295) (.lit 27)) (.lit 11)), false), ((.eq (.ar .shr .u32 (.var 0 0 4294967295) (.lit 27)) (.lit 10)), false), ((.eq (.ar .shr .u32 (.var 0 0 4294967295) (.lit 27)) (.lit 9)), false), ((.eq (.ar .shr .u32 (.var 0 0 4294967295) (.lit 27)) (.lit 8)), false), ((.eq (.ar .shr .u32 (.var 0 0 4294967295) (.lit 27)) (.lit 7)), false), ((.eq (.ar .shr .u32 (.var 0 0 4294967295) (.lit 27)) (.lit 6)), false), ((.eq (.ar .shr .u32 (.var 0 0 4294967295) (.lit 27)) (.lit 5)), false), ((.eq (.ar .shr .u32 (.var 0 0 4294967295) (.lit 27)) (.lit 4)), false), ((.eq (.ar .shr .u32 (.var 0 0 4294967295) (.lit 27)) (.lit 3)), false), ((.eq (.ar .shr .u32 (.var 0 0 4294967295) (.lit 27)) (.lit 2)), false), ((.eq (.ar .shr .u32 (.var 0 0 4294967295) (.lit 27)) (.lit 1)), false), ((.eq (.ar .shr .u32 (.var 0 0 4294967295) (.lit 27)) (.lit 0)), false), ((.eq (.ar .and .u32 (.var 0 0 4294967295) (.lit 127)) (.lit 47)), true), ((.eq (.ar .and .u32 (.var 0 0 4294967295) (.lit 127)) (.lit 115)), false), ((.eq (.ar .and .u32 (.var 0 0 4294967295) (.lit 127)) (.lit 15)), false), ((.eq (.ar .and .u32 (.var 0 0 4294967295) (.lit 127)) (.lit 59)), false), ((.eq (.ar .and .u32 (.var 0 0 4294967295) (.lit 127)) (.lit 27)), false), ((.eq (.ar .and .u32 (.var 0 0 4294967295) (.lit 127)) (.lit 51)), false), ((.eq (.ar .and .u32 (.var 0 0 4294967295) (.lit 127)) (.lit 19)), false), ((.eq (.ar .and .u32 (.var 0 0 4294967295) (.lit 127)) (.lit 35)), false), ((.eq (.ar .and .u32 (.var 0 0 4294967295) (.lit 127)) (.lit 3)), false), ((.eq (.ar .and .u32 (.var 0 0 4294967295) (.lit 127)) (.lit 99)), false), ((.eq (.ar .and .u32 (.var 0 0 4294967295) (.lit 127)) (.lit 103)), false), ((.eq (.ar .and .u32 (.var 0 0 4294967295) (.lit 127)) (.lit 111)), false), ((.eq (.ar .and .u32 (.var 0 0 4294967295) (.lit 127)) (.lit 23)), false), ((.eq (.ar .and .u32 (.var 0 0 4294967295) (.lit 127)) (.lit 55)), false)]
def exc59 : List Pc := []
theorem start59_yes : startYes Tryd.prog (tabGlob tabs) lawEv 300 lawBody lawFn 17 100000 places59 exc59 (psV lawPs 0) (stTab tabs lawPc59) = true := by kernel_rfl
theorem places59_yes : ∀ p ∈ places59, placeYes Tryd.prog (tabGlob tabs) lawEv 300 lawBody lawFn 17 100000 places59 exc59 p = true :=
  (fun p h => by cases h)
theorem places59_paths : ∀ p ∈ places59, pathsOk p.stk :=
  (fun p h => by cases h)
theorem exc59_no : ∀ q ∈ exc59, ∀ i, ¬ Holds i q := by intro q hq; cases hq
def places65 : List Sx.Place := []
def lawPc65 : Pc := [((.eq (.ar .shr .u32 (.var 0 0 4294967295) (.lit 27)) (.lit 23)), true), ((.eq (.ar .shr .u32 (.var 0 0 4294967295) (.lit 27)) (.lit 22)), false), ((.eq (.ar .shr .u32 (.var 0 0 4294967295) (.lit 27)) (.lit 21)), false), ((.eq (.ar .shr .u32 (.var 0 0 4294967295) (.lit 27)) (.lit 20)), false), ((.eq (.ar .shr .u32 (.var 0 0 4294967295) (.lit 27)) (.lit 19)), false), ((.eq (.ar .shr .u32 (.var 0 0 4294967295) (.lit 27)) (.lit 18)), false), ((.eq (.ar .shr .u32 (.var 0 0 4294967295) (.lit 27)) (.lit 17)), false), ((.eq (.ar .shr .u32 (.var 0 0 4294967295) (.lit 27)) (.lit 16)), false), ((.eq (.ar .shr .u32 (.var 0 0 4294967295) (.lit 27)) (.lit 15)), false), ((.eq (.ar .shr .u32 (.var 0 0 4294967295) (.lit 27)) (.lit 14)), false), ((.eq (.ar .shr .u32 (.var 0 0 4294967295) (.lit 27)) (.lit 13)), false), ((.eq (.ar .shr .u32 (.var 0 0 4294967295) (.lit 27)) (.lit 12)), false), ((.eq (.ar .shr .u32 (.var 0 0 4294967295) (.lit 27)) (.lit 11)), false), ((.eq (.ar .shr .u32 (.var 0 0 4294967295) (.lit 27)) (.lit 10)), false), ((.eq (.ar .shr .u32 (.var 0 0 4294967295) (.lit 27)) (.lit 9)), false), ((.eq (.ar .shr .u32 (.var 0 0 4294967295) (.lit 27)) (.lit 8)), false), ((.eq (.ar .shr .u32 (.var 0 0 4294967295) (.lit 27)) (.lit 7)), false), ((.eq (.ar .shr .u32 (.var 0 0 4294967295) (.lit 27)) (.lit 6)), false), ((.eq (.ar .shr .u32 (.var 0 0 4294967295) (.lit 27)) (.lit 5)), false), ((.eq (.ar .shr .u32 (.var 0 0 4294967295) (.lit 27)) (.lit 4)), false), ((.eq (.ar .shr .u32 (.var 0 0 4294967295) (.lit 27)) (.lit 3)), false), ((.eq (.ar .shr .u32 (.var 0 0 4294967295) (.lit 27)) (.lit 2)), false), ((.eq (.ar .shr .u32 (.var 0 0 4294967295) (.lit 27)) (.lit 1)), false), ((.eq (.ar .shr .u32 (.var 0 0 4294967295) (.lit 27)) (.lit 0)), false), ((.eq (.ar .and .u32 (.var 0 0 4294967295) (.lit 127)) (.lit 47)), true), ((.eq (.ar .and .u32 (.var 0 0 4294967295) (.lit 127)) (.lit 115)), false), ((.eq (.ar .and .u32 (.var 0 0 4294967295) (.lit 127)) (.lit 15)), false), ((.eq (.ar .and .u32 (.var 0 0 4294967295) (.lit 127)) (.lit 59)), false), ((.eq (.ar .and .u32 (.var 0 0 4294967295) (.lit 127)) (.lit 27)), false), ((.eq (.ar .and .u32 (.var 0 0 4294967295) (.lit 127)) (.lit 51)), false), ((.eq (.ar .and .u32 (.var 0 0 4294967295) (.lit 127)) (.lit 19)), false), ((.eq (.ar .and .u32 (.var 0 0 4294967295) (.lit 127)) (.lit 35)), false), ((.eq (.ar .and .u32 (.var 0 0 4294967295) (.lit 127)) (.lit 3)), false), ((.eq (.ar .and .u32 (.var 0 0 4294967295) (.lit 127)) (.lit 99)), false), ((.eq (.ar .and .u32 (.var 0 0 4294967295) (.lit 127)) (.lit 103)), false), ((.eq (.ar .and .u32 (.var 0 0 4294967295) (.lit 127)) (.lit 111)), false), ((.eq (.ar .and .u32 (.var 0 0 4294967295) (.lit 127)) (.lit 23)), false), ((.eq (.ar .and .u32 (.var 0 0 4294967295) (.lit 127)) (.lit 55)), false)]
def exc65 : List Pc := []
theorem start65_yes : startYes Tryd.prog (tabGlob tabs) lawEv 300 lawBody lawFn 17 100000 places65 exc65 (psV lawPs 0) (stTab tabs lawPc65) = true := by kernel_rfl
theorem places65_yes : ∀ p ∈ places65, placeYes Tryd.prog (tabGlob tabs) lawEv 300 lawBody lawFn 17 100000 places65 exc65 p = true :=
  (fun p h => by cases h)
theorem places65_paths : ∀ p ∈ places65, pathsOk p.stk :=
  (fun p h => by cases h)
theorem exc65_no : ∀ q ∈ exc65, ∀ i, ¬ Holds i q := by intro q hq; cases hq
end
end Go.Proofs.YtedmbiadbofaoaaDoor.Sx
