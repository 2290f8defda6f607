/- RvcForms: a part of its cases. -/
import Derived.Test.YthdhleaigphgeaaURvcForms
namespace Go.Proofs.Ythdhleaigphgeaa.Sx
open Go
noncomputable section
set_option maxRecDepth 100000
def places0 : List Sx.Place := []
def lawPc0 : Pc := [((.eq (.ar .shr .u16 (.var 0 0 65535) (.lit 13)) (.lit 0)), true), ((.eq (.ar .and .u16 (.var 0 0 65535) (.lit 3)) (.lit 0)), true)]
def exc0 : List Pc := []
theorem start0_yes : startYes Try.prog noGlob lawEv 300 lawBody lawFn 0 100000 places0 exc0 (psV lawPs 0) { nxt := 0, hp := .nil, pc := lawPc0 } = true := by kernel_rfl
theorem places0_yes : ∀ p ∈ places0, placeYes Try.prog noGlob lawEv 300 lawBody lawFn 0 100000 places0 exc0 p = true :=
  (fun p h => by cases h)
theorem places0_paths : ∀ p ∈ places0, pathsOk p.stk :=
  (fun p h => by cases h)
theorem exc0_no : ∀ q ∈ exc0, ∀ i, ¬ Holds i q := by intro q hq; cases hq
def places3 : List Sx.Place := []
def lawPc3 : Pc := [((.eq (.ar .shr .u16 (.var 0 0 65535) (.lit 13)) (.lit 0)), true), ((.lt (.ar .shr .u16 (.var 0 0 65535) (.lit 13)) (.lit 4)), true), ((.eq (.ar .and .u16 (.var 0 0 65535) (.lit 3)) (.lit 1)), true), ((.eq (.ar .and .u16 (.var 0 0 65535) (.lit 3)) (.lit 0)), false)]
def exc3 : List Pc := []
theorem start3_yes : startYes Try.prog noGlob lawEv 300 lawBody lawFn 0 100000 places3 exc3 (psV lawPs 0) { nxt := 0, hp := .nil, pc := lawPc3 } = true := by kernel_rfl
theorem places3_yes : ∀ p ∈ places3, placeYes Try.prog noGlob lawEv 300 lawBody lawFn 0 100000 places3 exc3 p = true :=
  (fun p h => by cases h)
theorem places3_paths : ∀ p ∈ places3, pathsOk p.stk :=
  (fun p h => by cases h)
theorem exc3_no : ∀ q ∈ exc3, ∀ i, ¬ Holds i q := by intro q hq; cases hq
def places6 : List Sx.Place := []
def lawPc6 : Pc := [((.eq (.ar .and .u16 (.var 0 0 65535) (.lit 61315)) (.lit 24833)), true), ((.eq (.ar .shr .u16 (.var 0 0 65535) (.lit 13)) (.lit 2)), false), ((.eq (.ar .shr .u16 (.var 0 0 65535) (.lit 13)) (.lit 1)), false), ((.eq (.ar .shr .u16 (.var 0 0 65535) (.lit 13)) (.lit 0)), false), ((.lt (.ar .shr .u16 (.var 0 0 65535) (.lit 13)) (.lit 4)), true), ((.eq (.ar .and .u16 (.var 0 0 65535) (.lit 3)) (.lit 1)), true), ((.eq (.ar .and .u16 (.var 0 0 65535) (.lit 3)) (.lit 0)), false)]
def exc6 : List Pc := []
theorem start6_yes : startYes Try.prog noGlob lawEv 300 lawBody lawFn 0 100000 places6 exc6 (psV lawPs 0) { nxt := 0, hp := .nil, pc := lawPc6 } = true := by kernel_rfl
theorem places6_yes : ∀ p ∈ places6, placeYes Try.prog noGlob lawEv 300 lawBody lawFn 0 100000 places6 exc6 p = true :=
  (fun p h => by cases h)
theorem places6_paths : ∀ p ∈ places6, pathsOk p.stk :=
  (fun p h => by cases h)
theorem exc6_no : ∀ q ∈ exc6, ∀ i, ¬ Holds i q := by intro q hq; cases hq
def places9 : List Sx.Place := []
def lawPc9 : Pc := [((.eq (.ar .shr .u16 (.var 0 0 65535) (.lit 13)) (.lit 6)), true), ((.eq (.ar .shr .u16 (.var 0 0 65535) (.lit 13)) (.lit 5)), false), ((.lt (.ar .shr .u16 (.var 0 0 65535) (.lit 13)) (.lit 4)), false), ((.eq (.ar .and .u16 (.var 0 0 65535) (.lit 3)) (.lit 1)), true), ((.eq (.ar .and .u16 (.var 0 0 65535) (.lit 3)) (.lit 0)), false)]
def exc9 : List Pc := []
theorem start9_yes : startYes Try.prog noGlob lawEv 300 lawBody lawFn 0 100000 places9 exc9 (psV lawPs 0) { nxt := 0, hp := .nil, pc := lawPc9 } = true := by kernel_rfl
theorem places9_yes : ∀ p ∈ places9, placeYes Try.prog noGlob lawEv 300 lawBody lawFn 0 100000 places9 exc9 p = true :=
  (fun p h => by cases h)
theorem places9_paths : ∀ p ∈ places9, pathsOk p.stk :=
  (fun p h => by cases h)
theorem exc9_no : ∀ q ∈ exc9, ∀ i, ¬ Holds i q := by intro q hq; cases hq
def places12 : List Sx.Place := []
def lawPc12 : Pc := [((.eq (.ar .and .u16 (.var 0 0 65535) (.lit 60419)) (.lit 33793)), true), ((.eq (.ar .and .u16 (.var 0 0 65535) (.lit 60419)) (.lit 32769)), false), ((.eq (.ar .shr .u16 (.var 0 0 65535) (.lit 13)) (.lit 7)), false), ((.eq (.ar .shr .u16 (.var 0 0 65535) (.lit 13)) (.lit 6)), false), ((.eq (.ar .shr .u16 (.var 0 0 65535) (.lit 13)) (.lit 5)), false), ((.lt (.ar .shr .u16 (.var 0 0 65535) (.lit 13)) (.lit 4)), false), ((.eq (.ar .and .u16 (.var 0 0 65535) (.lit 3)) (.lit 1)), true), ((.eq (.ar .and .u16 (.var 0 0 65535) (.lit 3)) (.lit 0)), false)]
def exc12 : List Pc := []
theorem start12_yes : startYes Try.prog noGlob lawEv 300 lawBody lawFn 0 100000 places12 exc12 (psV lawPs 0) { nxt := 0, hp := .nil, pc := lawPc12 } = true := by kernel_rfl
theorem places12_yes : ∀ p ∈ places12, placeYes Try.prog noGlob lawEv 300 lawBody lawFn 0 100000 places12 exc12 p = true :=
  (fun p h => by cases h)
theorem places12_paths : ∀ p ∈ places12, pathsOk p.stk :=
  (fun p h => by cases h)
theorem exc12_no : ∀ q ∈ exc12, ∀ i, ¬ Holds i q := by intro q hq; cases hq
def places15 : List Sx.Place := []
def lawPc15 : Pc := [((.eq (.ar .and .u16 (.var 0 0 65535) (.lit 64611)) (.lit 35873)), true), ((.eq (.ar .and .u16 (.var 0 0 65535) (.lit 64611)) (.lit 35841)), false), ((.eq (.ar .and .u16 (.var 0 0 65535) (.lit 60419)) (.lit 34817)), false), ((.eq (.ar .and .u16 (.var 0 0 65535) (.lit 60419)) (.lit 33793)), false), ((.eq (.ar .and .u16 (.var 0 0 65535) (.lit 60419)) (.lit 32769)), false), ((.eq (.ar .shr .u16 (.var 0 0 65535) (.lit 13)) (.lit 7)), false), ((.eq (.ar .shr .u16 (.var 0 0 65535) (.lit 13)) (.lit 6)), false), ((.eq (.ar .shr .u16 (.var 0 0 65535) (.lit 13)) (.lit 5)), false), ((.lt (.ar .shr .u16 (.var 0 0 65535) (.lit 13)) (.lit 4)), false), ((.eq (.ar .and .u16 (.var 0 0 65535) (.lit 3)) (.lit 1)), true), ((.eq (.ar .and .u16 (.var 0 0 65535) (.lit 3)) (.lit 0)), false)]
def exc15 : List Pc := []
theorem start15_yes : startYes Try.prog noGlob lawEv 300 lawBody lawFn 0 100000 places15 exc15 (psV lawPs 0) { nxt := 0, hp := .nil, pc := lawPc15 } = true := by kernel_rfl
theorem places15_yes : ∀ p ∈ places15, placeYes Try.prog noGlob lawEv 300 lawBody lawFn 0 100000 places15 exc15 p = true :=
  (fun p h => by cases h)
theorem places15_paths : ∀ p ∈ places15, pathsOk p.stk :=
  (fun p h => by cases h)
theorem exc15_no : ∀ q ∈ exc15, ∀ i, ¬ Holds i q := by intro q hq; cases hq
def places18 : List Sx.Place := []
def lawPc18 : Pc := [((.eq (.ar .shr .u16 (.var 0 0 65535) (.lit 13)) (.lit 0)), true), ((.eq (.ar .and .u16 (.var 0 0 65535) (.lit 3)) (.lit 2)), true), ((.eq (.ar .and .u16 (.var 0 0 65535) (.lit 3)) (.lit 1)), false), ((.eq (.ar .and .u16 (.var 0 0 65535) (.lit 3)) (.lit 0)), false)]
def exc18 : List Pc := []
theorem start18_yes : startYes Try.prog noGlob lawEv 300 lawBody lawFn 0 100000 places18 exc18 (psV lawPs 0) { nxt := 0, hp := .nil, pc := lawPc18 } = true := by kernel_rfl
theorem places18_yes : ∀ p ∈ places18, placeYes Try.prog noGlob lawEv 300 lawBody lawFn 0 100000 places18 exc18 p = true :=
  (fun p h => by cases h)
theorem places18_paths : ∀ p ∈ places18, pathsOk p.stk :=
  (fun p h => by cases h)
theorem exc18_no : ∀ q ∈ exc18, ∀ i, ¬ Holds i q := by intro q hq; cases hq
def places21 : List Sx.Place := []
def lawPc21 : Pc := [((.eq (.ar .and .u16 (.var 0 0 65535) (.lit 61567)) (.lit 32770)), true), ((.eq (.ar .shr .u16 (.var 0 0 65535) (.lit 13)) (.lit 4)), true), ((.eq (.ar .shr .u16 (.var 0 0 65535) (.lit 13)) (.lit 3)), false), ((.eq (.ar .shr .u16 (.var 0 0 65535) (.lit 13)) (.lit 2)), false), ((.eq (.ar .shr .u16 (.var 0 0 65535) (.lit 13)) (.lit 0)), false), ((.eq (.ar .and .u16 (.var 0 0 65535) (.lit 3)) (.lit 2)), true), ((.eq (.ar .and .u16 (.var 0 0 65535) (.lit 3)) (.lit 1)), false), ((.eq (.ar .and .u16 (.var 0 0 65535) (.lit 3)) (.lit 0)), false)]
def exc21 : List Pc := []
theorem start21_yes : startYes Try.prog noGlob lawEv 300 lawBody lawFn 0 100000 places21 exc21 (psV lawPs 0) { nxt := 0, hp := .nil, pc := lawPc21 } = true := by kernel_rfl
theorem places21_yes : ∀ p ∈ places21, placeYes Try.prog noGlob lawEv 300 lawBody lawFn 0 100000 places21 exc21 p = true :=
  (fun p h => by cases h)
theorem places21_paths : ∀ p ∈ places21, pathsOk p.stk :=
  (fun p h => by cases h)
theorem exc21_no : ∀ q ∈ exc21, ∀ i, ¬ Holds i q := by intro q hq; cases hq
def places24 : List Sx.Place := []
def lawPc24 : Pc := [((.eq (.var 0 0 65535) (.lit 36866)), false), ((.eq (.ar .and .u16 (.var 0 0 65535) (.lit 61443)) (.lit 32770)), false), ((.eq (.ar .and .u16 (.var 0 0 65535) (.lit 61567)) (.lit 32770)), false), ((.eq (.ar .shr .u16 (.var 0 0 65535) (.lit 13)) (.lit 4)), true), ((.eq (.ar .shr .u16 (.var 0 0 65535) (.lit 13)) (.lit 3)), false), ((.eq (.ar .shr .u16 (.var 0 0 65535) (.lit 13)) (.lit 2)), false), ((.eq (.ar .shr .u16 (.var 0 0 65535) (.lit 13)) (.lit 0)), false), ((.eq (.ar .and .u16 (.var 0 0 65535) (.lit 3)) (.lit 2)), true), ((.eq (.ar .and .u16 (.var 0 0 65535) (.lit 3)) (.lit 1)), false), ((.eq (.ar .and .u16 (.var 0 0 65535) (.lit 3)) (.lit 0)), false)]
def exc24 : List Pc := []
theorem start24_yes : startYes Try.prog noGlob lawEv 300 lawBody lawFn 0 100000 places24 exc24 (psV lawPs 0) { nxt := 0, hp := .nil, pc := lawPc24 } = true := by kernel_rfl
theorem places24_yes : ∀ p ∈ places24, placeYes Try.prog noGlob lawEv 300 lawBody lawFn 0 100000 places24 exc24 p = true :=
  (fun p h => by cases h)
theorem places24_paths : ∀ p ∈ places24, pathsOk p.stk :=
  (fun p h => by cases h)
theorem exc24_no : ∀ q ∈ exc24, ∀ i, ¬ Holds i q := by intro q hq; cases hq
end
end Go.Proofs.Ythdhleaigphgeaa.Sx
