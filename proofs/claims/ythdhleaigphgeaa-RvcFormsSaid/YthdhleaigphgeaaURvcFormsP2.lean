/- RvcForms: a part of its cases. -/
import Derived.Test.YthdhleaigphgeaaURvcForms
namespace Go.Proofs.Ythdhleaigphgeaa.Sx
open Go
noncomputable section
set_option maxRecDepth 100000
def places2 : List Sx.Place := []
def lawPc2 : Pc := [((.eq (.ar .shr .u16 (.var 0 0 65535) (.lit 13)) (.lit 2)), false), ((.eq (.ar .shr .u16 (.var 0 0 65535) (.lit 13)) (.lit 0)), false), ((.eq (.ar .and .u16 (.var 0 0 65535) (.lit 3)) (.lit 0)), true)]
def exc2 : List Pc := []
theorem start2_yes : startYes Try.prog noGlob lawEv 300 lawBody lawFn 0 100000 places2 exc2 (psV lawPs 0) { nxt := 0, hp := .nil, pc := lawPc2 } = true := by kernel_rfl
theorem places2_yes : ∀ p ∈ places2, placeYes Try.prog noGlob lawEv 300 lawBody lawFn 0 100000 places2 exc2 p = true :=
  (fun p h => by cases h)
theorem places2_paths : ∀ p ∈ places2, pathsOk p.stk :=
  (fun p h => by cases h)
theorem exc2_no : ∀ q ∈ exc2, ∀ i, ¬ Holds i q := by intro q hq; cases hq
def places5 : List Sx.Place := []
def lawPc5 : Pc := [((.eq (.ar .shr .u16 (.var 0 0 65535) (.lit 13)) (.lit 2)), true), ((.eq (.ar .shr .u16 (.var 0 0 65535) (.lit 13)) (.lit 1)), false), ((.eq (.ar .shr .u16 (.var 0 0 65535) (.lit 13)) (.lit 0)), false), ((.lt (.ar .shr .u16 (.var 0 0 65535) (.lit 13)) (.lit 4)), true), ((.eq (.ar .and .u16 (.var 0 0 65535) (.lit 3)) (.lit 1)), true), ((.eq (.ar .and .u16 (.var 0 0 65535) (.lit 3)) (.lit 0)), false)]
def exc5 : List Pc := []
theorem start5_yes : startYes Try.prog noGlob lawEv 300 lawBody lawFn 0 100000 places5 exc5 (psV lawPs 0) { nxt := 0, hp := .nil, pc := lawPc5 } = true := by kernel_rfl
theorem places5_yes : ∀ p ∈ places5, placeYes Try.prog noGlob lawEv 300 lawBody lawFn 0 100000 places5 exc5 p = true :=
  (fun p h => by cases h)
theorem places5_paths : ∀ p ∈ places5, pathsOk p.stk :=
  (fun p h => by cases h)
theorem exc5_no : ∀ q ∈ exc5, ∀ i, ¬ Holds i q := by intro q hq; cases hq
def places8 : List Sx.Place := []
def lawPc8 : Pc := [((.eq (.ar .shr .u16 (.var 0 0 65535) (.lit 13)) (.lit 5)), true), ((.lt (.ar .shr .u16 (.var 0 0 65535) (.lit 13)) (.lit 4)), false), ((.eq (.ar .and .u16 (.var 0 0 65535) (.lit 3)) (.lit 1)), true), ((.eq (.ar .and .u16 (.var 0 0 65535) (.lit 3)) (.lit 0)), false)]
def exc8 : List Pc := []
theorem start8_yes : startYes Try.prog noGlob lawEv 300 lawBody lawFn 0 100000 places8 exc8 (psV lawPs 0) { nxt := 0, hp := .nil, pc := lawPc8 } = true := by kernel_rfl
theorem places8_yes : ∀ p ∈ places8, placeYes Try.prog noGlob lawEv 300 lawBody lawFn 0 100000 places8 exc8 p = true :=
  (fun p h => by cases h)
theorem places8_paths : ∀ p ∈ places8, pathsOk p.stk :=
  (fun p h => by cases h)
theorem exc8_no : ∀ q ∈ exc8, ∀ i, ¬ Holds i q := by intro q hq; cases hq
def places11 : List Sx.Place := []
def lawPc11 : Pc := [((.eq (.ar .and .u16 (.var 0 0 65535) (.lit 60419)) (.lit 32769)), true), ((.eq (.ar .shr .u16 (.var 0 0 65535) (.lit 13)) (.lit 7)), false), ((.eq (.ar .shr .u16 (.var 0 0 65535) (.lit 13)) (.lit 6)), false), ((.eq (.ar .shr .u16 (.var 0 0 65535) (.lit 13)) (.lit 5)), false), ((.lt (.ar .shr .u16 (.var 0 0 65535) (.lit 13)) (.lit 4)), false), ((.eq (.ar .and .u16 (.var 0 0 65535) (.lit 3)) (.lit 1)), true), ((.eq (.ar .and .u16 (.var 0 0 65535) (.lit 3)) (.lit 0)), false)]
def exc11 : List Pc := []
theorem start11_yes : startYes Try.prog noGlob lawEv 300 lawBody lawFn 0 100000 places11 exc11 (psV lawPs 0) { nxt := 0, hp := .nil, pc := lawPc11 } = true := by kernel_rfl
theorem places11_yes : ∀ p ∈ places11, placeYes Try.prog noGlob lawEv 300 lawBody lawFn 0 100000 places11 exc11 p = true :=
  (fun p h => by cases h)
theorem places11_paths : ∀ p ∈ places11, pathsOk p.stk :=
  (fun p h => by cases h)
theorem exc11_no : ∀ q ∈ exc11, ∀ i, ¬ Holds i q := by intro q hq; cases hq
def places14 : List Sx.Place := []
def lawPc14 : Pc := [((.eq (.ar .and .u16 (.var 0 0 65535) (.lit 64611)) (.lit 35841)), true), ((.eq (.ar .and .u16 (.var 0 0 65535) (.lit 60419)) (.lit 34817)), false), ((.eq (.ar .and .u16 (.var 0 0 65535) (.lit 60419)) (.lit 33793)), false), ((.eq (.ar .and .u16 (.var 0 0 65535) (.lit 60419)) (.lit 32769)), false), ((.eq (.ar .shr .u16 (.var 0 0 65535) (.lit 13)) (.lit 7)), false), ((.eq (.ar .shr .u16 (.var 0 0 65535) (.lit 13)) (.lit 6)), false), ((.eq (.ar .shr .u16 (.var 0 0 65535) (.lit 13)) (.lit 5)), false), ((.lt (.ar .shr .u16 (.var 0 0 65535) (.lit 13)) (.lit 4)), false), ((.eq (.ar .and .u16 (.var 0 0 65535) (.lit 3)) (.lit 1)), true), ((.eq (.ar .and .u16 (.var 0 0 65535) (.lit 3)) (.lit 0)), false)]
def exc14 : List Pc := []
theorem start14_yes : startYes Try.prog noGlob lawEv 300 lawBody lawFn 0 100000 places14 exc14 (psV lawPs 0) { nxt := 0, hp := .nil, pc := lawPc14 } = true := by kernel_rfl
theorem places14_yes : ∀ p ∈ places14, placeYes Try.prog noGlob lawEv 300 lawBody lawFn 0 100000 places14 exc14 p = true :=
  (fun p h => by cases h)
theorem places14_paths : ∀ p ∈ places14, pathsOk p.stk :=
  (fun p h => by cases h)
theorem exc14_no : ∀ q ∈ exc14, ∀ i, ¬ Holds i q := by intro q hq; cases hq
def places17 : List Sx.Place := []
def lawPc17 : Pc := [((.eq (.ar .and .u16 (.var 0 0 65535) (.lit 64611)) (.lit 35905)), false), ((.eq (.ar .and .u16 (.var 0 0 65535) (.lit 64611)) (.lit 35873)), false), ((.eq (.ar .and .u16 (.var 0 0 65535) (.lit 64611)) (.lit 35841)), false), ((.eq (.ar .and .u16 (.var 0 0 65535) (.lit 60419)) (.lit 34817)), false), ((.eq (.ar .and .u16 (.var 0 0 65535) (.lit 60419)) (.lit 33793)), false), ((.eq (.ar .and .u16 (.var 0 0 65535) (.lit 60419)) (.lit 32769)), false), ((.eq (.ar .shr .u16 (.var 0 0 65535) (.lit 13)) (.lit 7)), false), ((.eq (.ar .shr .u16 (.var 0 0 65535) (.lit 13)) (.lit 6)), false), ((.eq (.ar .shr .u16 (.var 0 0 65535) (.lit 13)) (.lit 5)), false), ((.lt (.ar .shr .u16 (.var 0 0 65535) (.lit 13)) (.lit 4)), false), ((.eq (.ar .and .u16 (.var 0 0 65535) (.lit 3)) (.lit 1)), true), ((.eq (.ar .and .u16 (.var 0 0 65535) (.lit 3)) (.lit 0)), false)]
def exc17 : List Pc := []
theorem start17_yes : startYes Try.prog noGlob lawEv 300 lawBody lawFn 0 100000 places17 exc17 (psV lawPs 0) { nxt := 0, hp := .nil, pc := lawPc17 } = true := by kernel_rfl
theorem places17_yes : ∀ p ∈ places17, placeYes Try.prog noGlob lawEv 300 lawBody lawFn 0 100000 places17 exc17 p = true :=
  (fun p h => by cases h)
theorem places17_paths : ∀ p ∈ places17, pathsOk p.stk :=
  (fun p h => by cases h)
theorem exc17_no : ∀ q ∈ exc17, ∀ i, ¬ Holds i q := by intro q hq; cases hq
def places20 : List Sx.Place := []
def lawPc20 : Pc := [((.eq (.ar .shr .u16 (.var 0 0 65535) (.lit 13)) (.lit 3)), true), ((.eq (.ar .shr .u16 (.var 0 0 65535) (.lit 13)) (.lit 2)), false), ((.eq (.ar .shr .u16 (.var 0 0 65535) (.lit 13)) (.lit 0)), false), ((.eq (.ar .and .u16 (.var 0 0 65535) (.lit 3)) (.lit 2)), true), ((.eq (.ar .and .u16 (.var 0 0 65535) (.lit 3)) (.lit 1)), false), ((.eq (.ar .and .u16 (.var 0 0 65535) (.lit 3)) (.lit 0)), false)]
def exc20 : List Pc := []
theorem start20_yes : startYes Try.prog noGlob lawEv 300 lawBody lawFn 0 100000 places20 exc20 (psV lawPs 0) { nxt := 0, hp := .nil, pc := lawPc20 } = true := by kernel_rfl
theorem places20_yes : ∀ p ∈ places20, placeYes Try.prog noGlob lawEv 300 lawBody lawFn 0 100000 places20 exc20 p = true :=
  (fun p h => by cases h)
theorem places20_paths : ∀ p ∈ places20, pathsOk p.stk :=
  (fun p h => by cases h)
theorem exc20_no : ∀ q ∈ exc20, ∀ i, ¬ Holds i q := by intro q hq; cases hq
def places23 : List Sx.Place := []
def lawPc23 : Pc := [((.eq (.var 0 0 65535) (.lit 36866)), true), ((.eq (.ar .and .u16 (.var 0 0 65535) (.lit 61443)) (.lit 32770)), false), ((.eq (.ar .and .u16 (.var 0 0 65535) (.lit 61567)) (.lit 32770)), false), ((.eq (.ar .shr .u16 (.var 0 0 65535) (.lit 13)) (.lit 4)), true), ((.eq (.ar .shr .u16 (.var 0 0 65535) (.lit 13)) (.lit 3)), false), ((.eq (.ar .shr .u16 (.var 0 0 65535) (.lit 13)) (.lit 2)), false), ((.eq (.ar .shr .u16 (.var 0 0 65535) (.lit 13)) (.lit 0)), false), ((.eq (.ar .and .u16 (.var 0 0 65535) (.lit 3)) (.lit 2)), true), ((.eq (.ar .and .u16 (.var 0 0 65535) (.lit 3)) (.lit 1)), false), ((.eq (.ar .and .u16 (.var 0 0 65535) (.lit 3)) (.lit 0)), false)]
def exc23 : List Pc := []
theorem start23_yes : startYes Try.prog noGlob lawEv 300 lawBody lawFn 0 100000 places23 exc23 (psV lawPs 0) { nxt := 0, hp := .nil, pc := lawPc23 } = true := by kernel_rfl
theorem places23_yes : ∀ p ∈ places23, placeYes Try.prog noGlob lawEv 300 lawBody lawFn 0 100000 places23 exc23 p = true :=
  (fun p h => by cases h)
theorem places23_paths : ∀ p ∈ places23, pathsOk p.stk :=
  (fun p h => by cases h)
theorem exc23_no : ∀ q ∈ exc23, ∀ i, ¬ Holds i q := by intro q hq; cases hq
def places26 : List Sx.Place := []
def lawPc26 : Pc := [((.eq (.ar .and .u16 (.var 0 0 65535) (.lit 3)) (.lit 2)), false), ((.eq (.ar .and .u16 (.var 0 0 65535) (.lit 3)) (.lit 1)), false), ((.eq (.ar .and .u16 (.var 0 0 65535) (.lit 3)) (.lit 0)), false)]
def exc26 : List Pc := []
theorem start26_yes : startYes Try.prog noGlob lawEv 300 lawBody lawFn 0 100000 places26 exc26 (psV lawPs 0) { nxt := 0, hp := .nil, pc := lawPc26 } = true := by kernel_rfl
theorem places26_yes : ∀ p ∈ places26, placeYes Try.prog noGlob lawEv 300 lawBody lawFn 0 100000 places26 exc26 p = true :=
  (fun p h => by cases h)
theorem places26_paths : ∀ p ∈ places26, pathsOk p.stk :=
  (fun p h => by cases h)
theorem exc26_no : ∀ q ∈ exc26, ∀ i, ¬ Holds i q := by intro q hq; cases hq
end
end Go.Proofs.Ythdhleaigphgeaa.Sx
