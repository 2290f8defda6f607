/- RvcForms: a part of its cases. -/
import Derived.Test.YthdhleaigphgeaaURvcForms
namespace Go.Proofs.Ythdhleaigphgeaa.Sx
open Go
noncomputable section
set_option maxRecDepth 100000
def places1 : List Sx.Place := []
def lawPc1 : Pc := [((.eq (.ar .shr .u16 (.var 0 0 65535) (.lit 13)) (.lit 2)), true), ((.eq (.ar .shr .u16 (.var 0 0 65535) (.lit 13)) (.lit 0)), false), ((.eq (.ar .and .u16 (.var 0 0 65535) (.lit 3)) (.lit 0)), true)]
def exc1 : List Pc := []
theorem start1_yes : startYes Try.prog noGlob lawEv 300 lawBody lawFn 0 100000 places1 exc1 (psV lawPs 0) { nxt := 0, hp := .nil, pc := lawPc1 } = true := by kernel_rfl
theorem places1_yes : ∀ p ∈ places1, placeYes Try.prog noGlob lawEv 300 lawBody lawFn 0 100000 places1 exc1 p = true :=
  (fun p h => by cases h)
theorem places1_paths : ∀ p ∈ places1, pathsOk p.stk :=
  (fun p h => by cases h)
theorem exc1_no : ∀ q ∈ exc1, ∀ i, ¬ Holds i q := by intro q hq; cases hq
def places4 : List Sx.Place := []
def lawPc4 : Pc := [((.eq (.ar .shr .u16 (.var 0 0 65535) (.lit 13)) (.lit 1)), true), ((.eq (.ar .shr .u16 (.var 0 0 65535) (.lit 13)) (.lit 0)), false), ((.lt (.ar .shr .u16 (.var 0 0 65535) (.lit 13)) (.lit 4)), true), ((.eq (.ar .and .u16 (.var 0 0 65535) (.lit 3)) (.lit 1)), true), ((.eq (.ar .and .u16 (.var 0 0 65535) (.lit 3)) (.lit 0)), false)]
def exc4 : List Pc := []
theorem start4_yes : startYes Try.prog noGlob lawEv 300 lawBody lawFn 0 100000 places4 exc4 (psV lawPs 0) { nxt := 0, hp := .nil, pc := lawPc4 } = true := by kernel_rfl
theorem places4_yes : ∀ p ∈ places4, placeYes Try.prog noGlob lawEv 300 lawBody lawFn 0 100000 places4 exc4 p = true :=
  (fun p h => by cases h)
theorem places4_paths : ∀ p ∈ places4, pathsOk p.stk :=
  (fun p h => by cases h)
theorem exc4_no : ∀ q ∈ exc4, ∀ i, ¬ Holds i q := by intro q hq; cases hq
def places7 : List Sx.Place := []
def lawPc7 : Pc := [((.eq (.ar .and .u16 (.var 0 0 65535) (.lit 61315)) (.lit 24833)), false), ((.eq (.ar .shr .u16 (.var 0 0 65535) (.lit 13)) (.lit 2)), false), ((.eq (.ar .shr .u16 (.var 0 0 65535) (.lit 13)) (.lit 1)), false), ((.eq (.ar .shr .u16 (.var 0 0 65535) (.lit 13)) (.lit 0)), false), ((.lt (.ar .shr .u16 (.var 0 0 65535) (.lit 13)) (.lit 4)), true), ((.eq (.ar .and .u16 (.var 0 0 65535) (.lit 3)) (.lit 1)), true), ((.eq (.ar .and .u16 (.var 0 0 65535) (.lit 3)) (.lit 0)), false)]
def exc7 : List Pc := []
theorem start7_yes : startYes Try.prog noGlob lawEv 300 lawBody lawFn 0 100000 places7 exc7 (psV lawPs 0) { nxt := 0, hp := .nil, pc := lawPc7 } = true := by kernel_rfl
theorem places7_yes : ∀ p ∈ places7, placeYes Try.prog noGlob lawEv 300 lawBody lawFn 0 100000 places7 exc7 p = true :=
  (fun p h => by cases h)
theorem places7_paths : ∀ p ∈ places7, pathsOk p.stk :=
  (fun p h => by cases h)
theorem exc7_no : ∀ q ∈ exc7, ∀ i, ¬ Holds i q := by intro q hq; cases hq
def places10 : List Sx.Place := []
def lawPc10 : Pc := [((.eq (.ar .shr .u16 (.var 0 0 65535) (.lit 13)) (.lit 7)), true), ((.eq (.ar .shr .u16 (.var 0 0 65535) (.lit 13)) (.lit 6)), false), ((.eq (.ar .shr .u16 (.var 0 0 65535) (.lit 13)) (.lit 5)), false), ((.lt (.ar .shr .u16 (.var 0 0 65535) (.lit 13)) (.lit 4)), false), ((.eq (.ar .and .u16 (.var 0 0 65535) (.lit 3)) (.lit 1)), true), ((.eq (.ar .and .u16 (.var 0 0 65535) (.lit 3)) (.lit 0)), false)]
def exc10 : List Pc := []
theorem start10_yes : startYes Try.prog noGlob lawEv 300 lawBody lawFn 0 100000 places10 exc10 (psV lawPs 0) { nxt := 0, hp := .nil, pc := lawPc10 } = true := by kernel_rfl
theorem places10_yes : ∀ p ∈ places10, placeYes Try.prog noGlob lawEv 300 lawBody lawFn 0 100000 places10 exc10 p = true :=
  (fun p h => by cases h)
theorem places10_paths : ∀ p ∈ places10, pathsOk p.stk :=
  (fun p h => by cases h)
theorem exc10_no : ∀ q ∈ exc10, ∀ i, ¬ Holds i q := by intro q hq; cases hq
def places13 : List Sx.Place := []
def lawPc13 : Pc := [((.eq (.ar .and .u16 (.var 0 0 65535) (.lit 60419)) (.lit 34817)), true), ((.eq (.ar .and .u16 (.var 0 0 65535) (.lit 60419)) (.lit 33793)), false), ((.eq (.ar .and .u16 (.var 0 0 65535) (.lit 60419)) (.lit 32769)), false), ((.eq (.ar .shr .u16 (.var 0 0 65535) (.lit 13)) (.lit 7)), false), ((.eq (.ar .shr .u16 (.var 0 0 65535) (.lit 13)) (.lit 6)), false), ((.eq (.ar .shr .u16 (.var 0 0 65535) (.lit 13)) (.lit 5)), false), ((.lt (.ar .shr .u16 (.var 0 0 65535) (.lit 13)) (.lit 4)), false), ((.eq (.ar .and .u16 (.var 0 0 65535) (.lit 3)) (.lit 1)), true), ((.eq (.ar .and .u16 (.var 0 0 65535) (.lit 3)) (.lit 0)), false)]
def exc13 : List Pc := []
theorem start13_yes : startYes Try.prog noGlob lawEv 300 lawBody lawFn 0 100000 places13 exc13 (psV lawPs 0) { nxt := 0, hp := .nil, pc := lawPc13 } = true := by kernel_rfl
theorem places13_yes : ∀ p ∈ places13, placeYes Try.prog noGlob lawEv 300 lawBody lawFn 0 100000 places13 exc13 p = true :=
  (fun p h => by cases h)
theorem places13_paths : ∀ p ∈ places13, pathsOk p.stk :=
  (fun p h => by cases h)
theorem exc13_no : ∀ q ∈ exc13, ∀ i, ¬ Holds i q := by intro q hq; cases hq
def places16 : List Sx.Place := []
def lawPc16 : Pc := [((.eq (.ar .and .u16 (.var 0 0 65535) (.lit 64611)) (.lit 35905)), true), ((.eq (.ar .and .u16 (.var 0 0 65535) (.lit 64611)) (.lit 35873)), false), ((.eq (.ar .and .u16 (.var 0 0 65535) (.lit 64611)) (.lit 35841)), false), ((.eq (.ar .and .u16 (.var 0 0 65535) (.lit 60419)) (.lit 34817)), false), ((.eq (.ar .and .u16 (.var 0 0 65535) (.lit 60419)) (.lit 33793)), false), ((.eq (.ar .and .u16 (.var 0 0 65535) (.lit 60419)) (.lit 32769)), false), ((.eq (.ar .shr .u16 (.var 0 0 65535) (.lit 13)) (.lit 7)), false), ((.eq (.ar .shr .u16 (.var 0 0 65535) (.lit 13)) (.lit 6)), false), ((.eq (.ar .shr .u16 (.var 0 0 65535) (.lit 13)) (.lit 5)), false), ((.lt (.ar .shr .u16 (.var 0 0 65535) (.lit 13)) (.lit 4)), false), ((.eq (.ar .and .u16 (.var 0 0 65535) (.lit 3)) (.lit 1)), true), ((.eq (.ar .and .u16 (.var 0 0 65535) (.lit 3)) (.lit 0)), false)]
def exc16 : List Pc := []
theorem start16_yes : startYes Try.prog noGlob lawEv 300 lawBody lawFn 0 100000 places16 exc16 (psV lawPs 0) { nxt := 0, hp := .nil, pc := lawPc16 } = true := by kernel_rfl
theorem places16_yes : ∀ p ∈ places16, placeYes Try.prog noGlob lawEv 300 lawBody lawFn 0 100000 places16 exc16 p = true :=
  (fun p h => by cases h)
theorem places16_paths : ∀ p ∈ places16, pathsOk p.stk :=
  (fun p h => by cases h)
theorem exc16_no : ∀ q ∈ exc16, ∀ i, ¬ Holds i q := by intro q hq; cases hq
def places19 : List Sx.Place := []
def lawPc19 : Pc := [((.eq (.ar .shr .u16 (.var 0 0 65535) (.lit 13)) (.lit 2)), true), ((.eq (.ar .shr .u16 (.var 0 0 65535) (.lit 13)) (.lit 0)), false), ((.eq (.ar .and .u16 (.var 0 0 65535) (.lit 3)) (.lit 2)), true), ((.eq (.ar .and .u16 (.var 0 0 65535) (.lit 3)) (.lit 1)), false), ((.eq (.ar .and .u16 (.var 0 0 65535) (.lit 3)) (.lit 0)), false)]
def exc19 : List Pc := []
theorem start19_yes : startYes Try.prog noGlob lawEv 300 lawBody lawFn 0 100000 places19 exc19 (psV lawPs 0) { nxt := 0, hp := .nil, pc := lawPc19 } = true := by kernel_rfl
theorem places19_yes : ∀ p ∈ places19, placeYes Try.prog noGlob lawEv 300 lawBody lawFn 0 100000 places19 exc19 p = true :=
  (fun p h => by cases h)
theorem places19_paths : ∀ p ∈ places19, pathsOk p.stk :=
  (fun p h => by cases h)
theorem exc19_no : ∀ q ∈ exc19, ∀ i, ¬ Holds i q := by intro q hq; cases hq
def places22 : List Sx.Place := []
def lawPc22 : Pc := [((.eq (.ar .and .u16 (.var 0 0 65535) (.lit 61443)) (.lit 32770)), true), ((.eq (.ar .and .u16 (.var 0 0 65535) (.lit 61567)) (.lit 32770)), false), ((.eq (.ar .shr .u16 (.var 0 0 65535) (.lit 13)) (.lit 4)), true), ((.eq (.ar .shr .u16 (.var 0 0 65535) (.lit 13)) (.lit 3)), false), ((.eq (.ar .shr .u16 (.var 0 0 65535) (.lit 13)) (.lit 2)), false), ((.eq (.ar .shr .u16 (.var 0 0 65535) (.lit 13)) (.lit 0)), false), ((.eq (.ar .and .u16 (.var 0 0 65535) (.lit 3)) (.lit 2)), true), ((.eq (.ar .and .u16 (.var 0 0 65535) (.lit 3)) (.lit 1)), false), ((.eq (.ar .and .u16 (.var 0 0 65535) (.lit 3)) (.lit 0)), false)]
def exc22 : List Pc := []
theorem start22_yes : startYes Try.prog noGlob lawEv 300 lawBody lawFn 0 100000 places22 exc22 (psV lawPs 0) { nxt := 0, hp := .nil, pc := lawPc22 } = true := by kernel_rfl
theorem places22_yes : ∀ p ∈ places22, placeYes Try.prog noGlob lawEv 300 lawBody lawFn 0 100000 places22 exc22 p = true :=
  (fun p h => by cases h)
theorem places22_paths : ∀ p ∈ places22, pathsOk p.stk :=
  (fun p h => by cases h)
theorem exc22_no : ∀ q ∈ exc22, ∀ i, ¬ Holds i q := by intro q hq; cases hq
def places25 : List Sx.Place := []
def lawPc25 : Pc := [((.eq (.ar .shr .u16 (.var 0 0 65535) (.lit 13)) (.lit 4)), false), ((.eq (.ar .shr .u16 (.var 0 0 65535) (.lit 13)) (.lit 3)), false), ((.eq (.ar .shr .u16 (.var 0 0 65535) (.lit 13)) (.lit 2)), false), ((.eq (.ar .shr .u16 (.var 0 0 65535) (.lit 13)) (.lit 0)), false), ((.eq (.ar .and .u16 (.var 0 0 65535) (.lit 3)) (.lit 2)), true), ((.eq (.ar .and .u16 (.var 0 0 65535) (.lit 3)) (.lit 1)), false), ((.eq (.ar .and .u16 (.var 0 0 65535) (.lit 3)) (.lit 0)), false)]
def exc25 : List Pc := []
theorem start25_yes : startYes Try.prog noGlob lawEv 300 lawBody lawFn 0 100000 places25 exc25 (psV lawPs 0) { nxt := 0, hp := .nil, pc := lawPc25 } = true := by kernel_rfl
theorem places25_yes : ∀ p ∈ places25, placeYes Try.prog noGlob lawEv 300 lawBody lawFn 0 100000 places25 exc25 p = true :=
  (fun p h => by cases h)
theorem places25_paths : ∀ p ∈ places25, pathsOk p.stk :=
  (fun p h => by cases h)
theorem exc25_no : ∀ q ∈ exc25, ∀ i, ¬ Holds i q := by intro q hq; cases hq
end
end Go.Proofs.Ythdhleaigphgeaa.Sx
