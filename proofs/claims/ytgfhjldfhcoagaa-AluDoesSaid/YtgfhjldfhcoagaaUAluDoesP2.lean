/- AluDoes: a part of its cases. -/
import Derived.Test.YtgfhjldfhcoagaaUAluDoes
set_option linter.unusedVariables false
set_option linter.unusedSimpArgs false
namespace Go.Proofs.Ytgfhjldfhcoagaa.Sx
open Go
noncomputable section
set_option maxRecDepth 100000
def places2 : List Sx.Place := []
def lawPc2 : Pc := [((.lt (.var 2 0 18446744073709551615) (.lit 9223372036854775808)), true), ((.lt (.var 1 0 18446744073709551615) (.lit 9223372036854775808)), true), ((.eq (.var 0 0 255) (.lit 23)), true), ((.eq (.var 0 0 255) (.lit 22)), false), ((.lt (.var 0 0 255) (.lit 36)), true), ((.lt (.var 0 0 255) (.lit 22)), false)]
def exc2 : List Pc := [[((.lt (.ar .xor .u64 (.var 1 0 18446744073709551615) (.lit 9223372036854775808)) (.ar .xor .u64 (.var 2 0 18446744073709551615) (.lit 9223372036854775808))), false), ((.lt (.conv .i64 (.var 1 0 18446744073709551615)) (.conv .i64 (.var 2 0 18446744073709551615))), true), ((.lt (.var 2 0 18446744073709551615) (.lit 9223372036854775808)), true), ((.lt (.var 1 0 18446744073709551615) (.lit 9223372036854775808)), true), ((.eq (.var 0 0 255) (.lit 23)), true), ((.eq (.var 0 0 255) (.lit 22)), false), ((.lt (.var 0 0 255) (.lit 36)), true), ((.lt (.var 0 0 255) (.lit 22)), false)], [((.lt (.ar .xor .u64 (.var 1 0 18446744073709551615) (.lit 9223372036854775808)) (.ar .xor .u64 (.var 2 0 18446744073709551615) (.lit 9223372036854775808))), true), ((.lt (.conv .i64 (.var 1 0 18446744073709551615)) (.conv .i64 (.var 2 0 18446744073709551615))), false), ((.lt (.var 2 0 18446744073709551615) (.lit 9223372036854775808)), true), ((.lt (.var 1 0 18446744073709551615) (.lit 9223372036854775808)), true), ((.eq (.var 0 0 255) (.lit 23)), true), ((.eq (.var 0 0 255) (.lit 22)), false), ((.lt (.var 0 0 255) (.lit 36)), true), ((.lt (.var 0 0 255) (.lit 22)), false)]]
theorem start2_yes : startYes Try.prog noGlob lawEv 300 lawBody lawFn 0 100000 places2 exc2 (psV lawPs 0) { nxt := 0, hp := .nil, pc := lawPc2 } = true := by kernel_rfl
theorem places2_yes : ∀ p ∈ places2, placeYes Try.prog noGlob lawEv 300 lawBody lawFn 0 100000 places2 exc2 p = true :=
  (fun p h => by cases h)
theorem places2_paths : ∀ p ∈ places2, pathsOk p.stk :=
  (fun p h => by cases h)
def places8 : List Sx.Place := []
def lawPc8 : Pc := [((.eq (.var 0 0 255) (.lit 26)), true), ((.eq (.var 0 0 255) (.lit 25)), false), ((.eq (.var 0 0 255) (.lit 24)), false), ((.eq (.var 0 0 255) (.lit 23)), false), ((.eq (.var 0 0 255) (.lit 22)), false), ((.lt (.var 0 0 255) (.lit 36)), true), ((.lt (.var 0 0 255) (.lit 22)), false)]
def exc8 : List Pc := []
theorem start8_yes : startYes Try.prog noGlob lawEv 300 lawBody lawFn 0 100000 places8 exc8 (psV lawPs 0) { nxt := 0, hp := .nil, pc := lawPc8 } = true := by kernel_rfl
theorem places8_yes : ∀ p ∈ places8, placeYes Try.prog noGlob lawEv 300 lawBody lawFn 0 100000 places8 exc8 p = true :=
  (fun p h => by cases h)
theorem places8_paths : ∀ p ∈ places8, pathsOk p.stk :=
  (fun p h => by cases h)
def places14 : List Sx.Place := []
def lawPc14 : Pc := [((.eq (.var 0 0 255) (.lit 32)), true), ((.eq (.var 0 0 255) (.lit 31)), false), ((.eq (.var 0 0 255) (.lit 30)), false), ((.eq (.var 0 0 255) (.lit 29)), false), ((.eq (.var 0 0 255) (.lit 28)), false), ((.eq (.var 0 0 255) (.lit 27)), false), ((.eq (.var 0 0 255) (.lit 26)), false), ((.eq (.var 0 0 255) (.lit 25)), false), ((.eq (.var 0 0 255) (.lit 24)), false), ((.eq (.var 0 0 255) (.lit 23)), false), ((.eq (.var 0 0 255) (.lit 22)), false), ((.lt (.var 0 0 255) (.lit 36)), true), ((.lt (.var 0 0 255) (.lit 22)), false)]
def exc14 : List Pc := []
theorem start14_yes : startYes Try.prog noGlob lawEv 300 lawBody lawFn 0 100000 places14 exc14 (psV lawPs 0) { nxt := 0, hp := .nil, pc := lawPc14 } = true := by kernel_rfl
theorem places14_yes : ∀ p ∈ places14, placeYes Try.prog noGlob lawEv 300 lawBody lawFn 0 100000 places14 exc14 p = true :=
  (fun p h => by cases h)
theorem places14_paths : ∀ p ∈ places14, pathsOk p.stk :=
  (fun p h => by cases h)
def places20 : List Sx.Place := []
def lawPc20 : Pc := [((.eq (.var 0 0 255) (.lit 35)), true), ((.eq (.var 0 0 255) (.lit 34)), false), ((.eq (.var 0 0 255) (.lit 33)), false), ((.eq (.var 0 0 255) (.lit 32)), false), ((.eq (.var 0 0 255) (.lit 31)), false), ((.eq (.var 0 0 255) (.lit 30)), false), ((.eq (.var 0 0 255) (.lit 29)), false), ((.eq (.var 0 0 255) (.lit 28)), false), ((.eq (.var 0 0 255) (.lit 27)), false), ((.eq (.var 0 0 255) (.lit 26)), false), ((.eq (.var 0 0 255) (.lit 25)), false), ((.eq (.var 0 0 255) (.lit 24)), false), ((.eq (.var 0 0 255) (.lit 23)), false), ((.eq (.var 0 0 255) (.lit 22)), false), ((.lt (.var 0 0 255) (.lit 36)), true), ((.lt (.var 0 0 255) (.lit 22)), false)]
def exc20 : List Pc := []
theorem start20_yes : startYes Try.prog noGlob lawEv 300 lawBody lawFn 0 100000 places20 exc20 (psV lawPs 0) { nxt := 0, hp := .nil, pc := lawPc20 } = true := by kernel_rfl
theorem places20_yes : ∀ p ∈ places20, placeYes Try.prog noGlob lawEv 300 lawBody lawFn 0 100000 places20 exc20 p = true :=
  (fun p h => by cases h)
theorem places20_paths : ∀ p ∈ places20, pathsOk p.stk :=
  (fun p h => by cases h)
def places26 : List Sx.Place := []
def lawPc26 : Pc := [((.eq (.var 0 0 255) (.lit 40)), true), ((.eq (.var 0 0 255) (.lit 39)), false), ((.eq (.var 0 0 255) (.lit 38)), false), ((.eq (.var 0 0 255) (.lit 37)), false), ((.eq (.var 0 0 255) (.lit 36)), false), ((.lt (.var 0 0 255) (.lit 50)), true), ((.lt (.var 0 0 255) (.lit 36)), false), ((.lt (.var 0 0 255) (.lit 22)), false)]
def exc26 : List Pc := []
theorem start26_yes : startYes Try.prog noGlob lawEv 300 lawBody lawFn 0 100000 places26 exc26 (psV lawPs 0) { nxt := 0, hp := .nil, pc := lawPc26 } = true := by kernel_rfl
theorem places26_yes : ∀ p ∈ places26, placeYes Try.prog noGlob lawEv 300 lawBody lawFn 0 100000 places26 exc26 p = true :=
  (fun p h => by cases h)
theorem places26_paths : ∀ p ∈ places26, pathsOk p.stk :=
  (fun p h => by cases h)
def places32 : List Sx.Place := []
def lawPc32 : Pc := [((.eq (.var 0 0 255) (.lit 46)), true), ((.eq (.var 0 0 255) (.lit 45)), false), ((.eq (.var 0 0 255) (.lit 44)), false), ((.eq (.var 0 0 255) (.lit 43)), false), ((.eq (.var 0 0 255) (.lit 42)), false), ((.eq (.var 0 0 255) (.lit 41)), false), ((.eq (.var 0 0 255) (.lit 40)), false), ((.eq (.var 0 0 255) (.lit 39)), false), ((.eq (.var 0 0 255) (.lit 38)), false), ((.eq (.var 0 0 255) (.lit 37)), false), ((.eq (.var 0 0 255) (.lit 36)), false), ((.lt (.var 0 0 255) (.lit 50)), true), ((.lt (.var 0 0 255) (.lit 36)), false), ((.lt (.var 0 0 255) (.lit 22)), false)]
def exc32 : List Pc := []
theorem start32_yes : startYes Try.prog noGlob lawEv 300 lawBody lawFn 0 100000 places32 exc32 (psV lawPs 0) { nxt := 0, hp := .nil, pc := lawPc32 } = true := by kernel_rfl
theorem places32_yes : ∀ p ∈ places32, placeYes Try.prog noGlob lawEv 300 lawBody lawFn 0 100000 places32 exc32 p = true :=
  (fun p h => by cases h)
theorem places32_paths : ∀ p ∈ places32, pathsOk p.stk :=
  (fun p h => by cases h)
def places38 : List Sx.Place := []
def lawPc38 : Pc := [((.eq (.var 0 0 255) (.lit 54)), true), ((.lt (.var 0 0 255) (.lit 67)), true), ((.lt (.var 0 0 255) (.lit 54)), false), ((.lt (.var 0 0 255) (.lit 50)), false), ((.lt (.var 0 0 255) (.lit 36)), false), ((.lt (.var 0 0 255) (.lit 22)), false)]
def exc38 : List Pc := []
theorem start38_yes : startYes Try.prog noGlob lawEv 300 lawBody lawFn 0 100000 places38 exc38 (psV lawPs 0) { nxt := 0, hp := .nil, pc := lawPc38 } = true := by kernel_rfl
theorem places38_yes : ∀ p ∈ places38, placeYes Try.prog noGlob lawEv 300 lawBody lawFn 0 100000 places38 exc38 p = true :=
  (fun p h => by cases h)
theorem places38_paths : ∀ p ∈ places38, pathsOk p.stk :=
  (fun p h => by cases h)
def places44 : List Sx.Place := []
def lawPc44 : Pc := [((.lt (.var 2 0 18446744073709551615) (.lit 9223372036854775808)), false), ((.lt (.var 1 0 18446744073709551615) (.lit 9223372036854775808)), true), ((.eq (.var 0 0 255) (.lit 56)), true), ((.eq (.var 0 0 255) (.lit 55)), false), ((.eq (.var 0 0 255) (.lit 54)), false), ((.lt (.var 0 0 255) (.lit 67)), true), ((.lt (.var 0 0 255) (.lit 54)), false), ((.lt (.var 0 0 255) (.lit 50)), false), ((.lt (.var 0 0 255) (.lit 36)), false), ((.lt (.var 0 0 255) (.lit 22)), false)]
def exc44 : List Pc := [[((.eq (.ar .add .u64 (.ar .add .u64 (.ar .mul .u64 (.ar .shr .u64 (.var 1 0 18446744073709551615) (.lit 32)) (.ar .shr .u64 (.var 2 0 18446744073709551615) (.lit 32))) (.ar .shr .u64 (.ar .add .u64 (.ar .mul .u64 (.ar .shr .u64 (.var 1 0 18446744073709551615) (.lit 32)) (.ar .and .u64 (.var 2 0 18446744073709551615) (.lit 4294967295))) (.ar .shr .u64 (.ar .mul .u64 (.ar .and .u64 (.var 1 0 18446744073709551615) (.lit 4294967295)) (.ar .and .u64 (.var 2 0 18446744073709551615) (.lit 4294967295))) (.lit 32))) (.lit 32))) (.ar .shr .u64 (.ar .add .u64 (.ar .and .u64 (.ar .add .u64 (.ar .mul .u64 (.ar .shr .u64 (.var 1 0 18446744073709551615) (.lit 32)) (.var 2 0 18446744073709551615)) (.ar .shr .u64 (.ar .mul .u64 (.ar .and .u64 (.var 1 0 18446744073709551615) (.lit 4294967295)) (.ar .and .u64 (.var 2 0 18446744073709551615) (.lit 4294967295))) (.lit 32))) (.lit 4294967295)) (.ar .mul .u64 (.ar .and .u64 (.var 1 0 18446744073709551615) (.lit 4294967295)) (.ar .shr .u64 (.var 2 0 18446744073709551615) (.lit 32)))) (.lit 32))) (.ar .sub .u64 (.ar .add .u64 (.ar .add .u64 (.ar .mul .u64 (.ar .shr .u64 (.var 1 0 18446744073709551615) (.lit 32)) (.ar .shr .u64 (.var 2 0 18446744073709551615) (.lit 32))) (.ar .shr .u64 (.ar .add .u64 (.ar .mul .u64 (.ar .shr .u64 (.var 1 0 18446744073709551615) (.lit 32)) (.ar .and .u64 (.var 2 0 18446744073709551615) (.lit 4294967295))) (.ar .shr .u64 (.ar .mul .u64 (.ar .and .u64 (.var 1 0 18446744073709551615) (.lit 4294967295)) (.ar .and .u64 (.var 2 0 18446744073709551615) (.lit 4294967295))) (.lit 32))) (.lit 32))) (.ar .shr .u64 (.ar .add .u64 (.ar .and .u64 (.ar .add .u64 (.ar .mul .u64 (.ar .shr .u64 (.var 1 0 18446744073709551615) (.lit 32)) (.var 2 0 18446744073709551615)) (.ar .shr .u64 (.ar .mul .u64 (.ar .and .u64 (.var 1 0 18446744073709551615) (.lit 4294967295)) (.ar .and .u64 (.var 2 0 18446744073709551615) (.lit 4294967295))) (.lit 32))) (.lit 4294967295)) (.ar .mul .u64 (.ar .and .u64 (.var 1 0 18446744073709551615) (.lit 4294967295)) (.ar .shr .u64 (.var 2 0 18446744073709551615) (.lit 32)))) (.lit 32))) (.var 2 0 18446744073709551615))), false), ((.eq (.ar .shr .u64 (.var 1 0 18446744073709551615) (.lit 63)) (.lit 1)), true), ((.lt (.var 2 0 18446744073709551615) (.lit 9223372036854775808)), false), ((.lt (.var 1 0 18446744073709551615) (.lit 9223372036854775808)), true), ((.eq (.var 0 0 255) (.lit 56)), true), ((.eq (.var 0 0 255) (.lit 55)), false), ((.eq (.var 0 0 255) (.lit 54)), false), ((.lt (.var 0 0 255) (.lit 67)), true), ((.lt (.var 0 0 255) (.lit 54)), false), ((.lt (.var 0 0 255) (.lit 50)), false), ((.lt (.var 0 0 255) (.lit 36)), false), ((.lt (.var 0 0 255) (.lit 22)), false)]]
theorem start44_yes : startYes Try.prog noGlob lawEv 300 lawBody lawFn 0 100000 places44 exc44 (psV lawPs 0) { nxt := 0, hp := .nil, pc := lawPc44 } = true := by kernel_rfl
theorem places44_yes : ∀ p ∈ places44, placeYes Try.prog noGlob lawEv 300 lawBody lawFn 0 100000 places44 exc44 p = true :=
  (fun p h => by cases h)
theorem places44_paths : ∀ p ∈ places44, pathsOk p.stk :=
  (fun p h => by cases h)
def places50 : List Sx.Place := []
def lawPc50 : Pc := [((.eq (.var 0 0 255) (.lit 60)), true), ((.eq (.var 0 0 255) (.lit 59)), false), ((.eq (.var 0 0 255) (.lit 58)), false), ((.eq (.var 0 0 255) (.lit 57)), false), ((.eq (.var 0 0 255) (.lit 56)), false), ((.eq (.var 0 0 255) (.lit 55)), false), ((.eq (.var 0 0 255) (.lit 54)), false), ((.lt (.var 0 0 255) (.lit 67)), true), ((.lt (.var 0 0 255) (.lit 54)), false), ((.lt (.var 0 0 255) (.lit 50)), false), ((.lt (.var 0 0 255) (.lit 36)), false), ((.lt (.var 0 0 255) (.lit 22)), false)]
def exc50 : List Pc := [[((.eq (.conv .u64 (.ar .rem .i64 (.conv .i64 (.var 1 0 18446744073709551615)) (.conv .i64 (.var 2 0 18446744073709551615)))) (.lit 0)), false), ((.eq (.ar .shr .u64 (.ar .and .u64 (.ar .rem .u64 (.ar .and .u64 (.var 1 0 18446744073709551615) (.lit 4294967295)) (.ar .and .u64 (.var 2 0 18446744073709551615) (.lit 4294967295))) (.lit 4294967295)) (.lit 31)) (.lit 1)), true), ((.eq (.conv .i32 (.var 2 0 18446744073709551615)) (.lit 0)), true), ((.eq (.var 2 0 18446744073709551615) (.lit 18446744073709551615)), true), ((.eq (.var 2 0 18446744073709551615) (.lit 0)), false), ((.eq (.var 0 0 255) (.lit 60)), true), ((.eq (.var 0 0 255) (.lit 59)), false), ((.eq (.var 0 0 255) (.lit 58)), false), ((.eq (.var 0 0 255) (.lit 57)), false), ((.eq (.var 0 0 255) (.lit 56)), false), ((.eq (.var 0 0 255) (.lit 55)), false), ((.eq (.var 0 0 255) (.lit 54)), false), ((.lt (.var 0 0 255) (.lit 67)), true), ((.lt (.var 0 0 255) (.lit 54)), false), ((.lt (.var 0 0 255) (.lit 50)), false), ((.lt (.var 0 0 255) (.lit 36)), false), ((.lt (.var 0 0 255) (.lit 22)), false)], [((.eq (.conv .u64 (.ar .rem .i64 (.conv .i64 (.var 1 0 18446744073709551615)) (.conv .i64 (.var 2 0 18446744073709551615)))) (.lit 0)), false), ((.eq (.ar .shr .u64 (.ar .and .u64 (.ar .rem .u64 (.ar .and .u64 (.var 1 0 18446744073709551615) (.lit 4294967295)) (.ar .and .u64 (.var 2 0 18446744073709551615) (.lit 4294967295))) (.lit 4294967295)) (.lit 31)) (.lit 1)), false), ((.eq (.conv .i32 (.var 2 0 18446744073709551615)) (.lit 0)), true), ((.eq (.var 2 0 18446744073709551615) (.lit 18446744073709551615)), true), ((.eq (.var 2 0 18446744073709551615) (.lit 0)), false), ((.eq (.var 0 0 255) (.lit 60)), true), ((.eq (.var 0 0 255) (.lit 59)), false), ((.eq (.var 0 0 255) (.lit 58)), false), ((.eq (.var 0 0 255) (.lit 57)), false), ((.eq (.var 0 0 255) (.lit 56)), false), ((.eq (.var 0 0 255) (.lit 55)), false), ((.eq (.var 0 0 255) (.lit 54)), false), ((.lt (.var 0 0 255) (.lit 67)), true), ((.lt (.var 0 0 255) (.lit 54)), false), ((.lt (.var 0 0 255) (.lit 50)), false), ((.lt (.var 0 0 255) (.lit 36)), false), ((.lt (.var 0 0 255) (.lit 22)), false)], [((.eq (.conv .u64 (.ar .rem .i64 (.conv .i64 (.var 1 0 18446744073709551615)) (.conv .i64 (.var 2 0 18446744073709551615)))) (.lit 0)), false), ((.eq (.ar .shr .u64 (.ar .and .u64 (.ar .rem .u64 (.ar .and .u64 (.var 1 0 18446744073709551615) (.lit 4294967295)) (.ar .and .u64 (.var 2 0 18446744073709551615) (.lit 4294967295))) (.lit 4294967295)) (.lit 31)) (.lit 1)), true), ((.eq (.conv .i32 (.var 2 0 18446744073709551615)) (.lit 0)), false), ((.eq (.var 2 0 18446744073709551615) (.lit 18446744073709551615)), true), ((.eq (.var 2 0 18446744073709551615) (.lit 0)), false), ((.eq (.var 0 0 255) (.lit 60)), true), ((.eq (.var 0 0 255) (.lit 59)), false), ((.eq (.var 0 0 255) (.lit 58)), false), ((.eq (.var 0 0 255) (.lit 57)), false), ((.eq (.var 0 0 255) (.lit 56)), false), ((.eq (.var 0 0 255) (.lit 55)), false), ((.eq (.var 0 0 255) (.lit 54)), false), ((.lt (.var 0 0 255) (.lit 67)), true), ((.lt (.var 0 0 255) (.lit 54)), false), ((.lt (.var 0 0 255) (.lit 50)), false), ((.lt (.var 0 0 255) (.lit 36)), false), ((.lt (.var 0 0 255) (.lit 22)), false)], [((.eq (.conv .u64 (.ar .rem .i64 (.conv .i64 (.var 1 0 18446744073709551615)) (.conv .i64 (.var 2 0 18446744073709551615)))) (.lit 0)), false), ((.eq (.ar .shr .u64 (.ar .and .u64 (.ar .rem .u64 (.ar .and .u64 (.var 1 0 18446744073709551615) (.lit 4294967295)) (.ar .and .u64 (.var 2 0 18446744073709551615) (.lit 4294967295))) (.lit 4294967295)) (.lit 31)) (.lit 1)), false), ((.eq (.conv .i32 (.var 2 0 18446744073709551615)) (.lit 0)), false), ((.eq (.var 2 0 18446744073709551615) (.lit 18446744073709551615)), true), ((.eq (.var 2 0 18446744073709551615) (.lit 0)), false), ((.eq (.var 0 0 255) (.lit 60)), true), ((.eq (.var 0 0 255) (.lit 59)), false), ((.eq (.var 0 0 255) (.lit 58)), false), ((.eq (.var 0 0 255) (.lit 57)), false), ((.eq (.var 0 0 255) (.lit 56)), false), ((.eq (.var 0 0 255) (.lit 55)), false), ((.eq (.var 0 0 255) (.lit 54)), false), ((.lt (.var 0 0 255) (.lit 67)), true), ((.lt (.var 0 0 255) (.lit 54)), false), ((.lt (.var 0 0 255) (.lit 50)), false), ((.lt (.var 0 0 255) (.lit 36)), false), ((.lt (.var 0 0 255) (.lit 22)), false)]]
theorem start50_yes : startYes Try.prog noGlob lawEv 300 lawBody lawFn 0 100000 places50 exc50 (psV lawPs 0) { nxt := 0, hp := .nil, pc := lawPc50 } = true := by kernel_rfl
theorem places50_yes : ∀ p ∈ places50, placeYes Try.prog noGlob lawEv 300 lawBody lawFn 0 100000 places50 exc50 p = true :=
  (fun p h => by cases h)
theorem places50_paths : ∀ p ∈ places50, pathsOk p.stk :=
  (fun p h => by cases h)
def places56 : List Sx.Place := []
def lawPc56 : Pc := [((.eq (.var 0 0 255) (.lit 66)), true), ((.eq (.var 0 0 255) (.lit 65)), false), ((.eq (.var 0 0 255) (.lit 64)), false), ((.eq (.var 0 0 255) (.lit 63)), false), ((.eq (.var 0 0 255) (.lit 62)), false), ((.eq (.var 0 0 255) (.lit 61)), false), ((.eq (.var 0 0 255) (.lit 60)), false), ((.eq (.var 0 0 255) (.lit 59)), false), ((.eq (.var 0 0 255) (.lit 58)), false), ((.eq (.var 0 0 255) (.lit 57)), false), ((.eq (.var 0 0 255) (.lit 56)), false), ((.eq (.var 0 0 255) (.lit 55)), false), ((.eq (.var 0 0 255) (.lit 54)), false), ((.lt (.var 0 0 255) (.lit 67)), true), ((.lt (.var 0 0 255) (.lit 54)), false), ((.lt (.var 0 0 255) (.lit 50)), false), ((.lt (.var 0 0 255) (.lit 36)), false), ((.lt (.var 0 0 255) (.lit 22)), false)]
def exc56 : List Pc := []
theorem start56_yes : startYes Try.prog noGlob lawEv 300 lawBody lawFn 0 100000 places56 exc56 (psV lawPs 0) { nxt := 0, hp := .nil, pc := lawPc56 } = true := by kernel_rfl
theorem places56_yes : ∀ p ∈ places56, placeYes Try.prog noGlob lawEv 300 lawBody lawFn 0 100000 places56 exc56 p = true :=
  (fun p h => by cases h)
theorem places56_paths : ∀ p ∈ places56, pathsOk p.stk :=
  (fun p h => by cases h)
end
end Go.Proofs.Ytgfhjldfhcoagaa.Sx
