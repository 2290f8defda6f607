/- AmoMakes: a part of its cases. -/
import Derived.Test.YtaebmaahbkgcoaaGreatUAmoMakes
namespace Go.Proofs.YtaebmaahbkgcoaaGreat.Sx
open Go
noncomputable section
set_option maxRecDepth 100000
def places12 : List Sx.Place := []
def lawPc12 : Pc := [((.lt (.var 0 0 255) (.lit 79)), true), ((.lt (.var 0 0 255) (.lit 80)), true), ((.lt (.var 0 0 255) (.lit 83)), true), ((.lt (.var 0 0 255) (.lit 78)), false), ((.lt (.var 0 0 255) (.lit 89)), true), ((.lt (.var 0 0 255) (.lit 67)), false)]
def exc12 : List Pc := []
theorem start12_yes : startYes Tryz.prog noGlob lawEv 300 lawBody lawFn 0 100000 places12 exc12 (psV lawPs 0) { nxt := 0, hp := .nil, pc := lawPc12 } = true := by kernel_rfl
theorem places12_yes : ∀ p ∈ places12, placeYes Tryz.prog noGlob lawEv 300 lawBody lawFn 0 100000 places12 exc12 p = true :=
  (fun p h => by cases h)
theorem places12_paths : ∀ p ∈ places12, pathsOk p.stk :=
  (fun p h => by cases h)
def places13 : List Sx.Place := []
def lawPc13 : Pc := [((.lt (.var 0 0 255) (.lit 79)), false), ((.lt (.var 0 0 255) (.lit 80)), true), ((.lt (.var 0 0 255) (.lit 83)), true), ((.lt (.var 0 0 255) (.lit 78)), false), ((.lt (.var 0 0 255) (.lit 89)), true), ((.lt (.var 0 0 255) (.lit 67)), false)]
def exc13 : List Pc := []
theorem start13_yes : startYes Tryz.prog noGlob lawEv 300 lawBody lawFn 0 100000 places13 exc13 (psV lawPs 0) { nxt := 0, hp := .nil, pc := lawPc13 } = true := by kernel_rfl
theorem places13_yes : ∀ p ∈ places13, placeYes Tryz.prog noGlob lawEv 300 lawBody lawFn 0 100000 places13 exc13 p = true :=
  (fun p h => by cases h)
theorem places13_paths : ∀ p ∈ places13, pathsOk p.stk :=
  (fun p h => by cases h)
def places14 : List Sx.Place := []
def lawPc14 : Pc := [((.lt (.var 0 0 255) (.lit 81)), true), ((.lt (.var 0 0 255) (.lit 80)), false), ((.lt (.var 0 0 255) (.lit 83)), true), ((.lt (.var 0 0 255) (.lit 78)), false), ((.lt (.var 0 0 255) (.lit 89)), true), ((.lt (.var 0 0 255) (.lit 67)), false)]
def exc14 : List Pc := []
theorem start14_yes : startYes Tryz.prog noGlob lawEv 300 lawBody lawFn 0 100000 places14 exc14 (psV lawPs 0) { nxt := 0, hp := .nil, pc := lawPc14 } = true := by kernel_rfl
theorem places14_yes : ∀ p ∈ places14, placeYes Tryz.prog noGlob lawEv 300 lawBody lawFn 0 100000 places14 exc14 p = true :=
  (fun p h => by cases h)
theorem places14_paths : ∀ p ∈ places14, pathsOk p.stk :=
  (fun p h => by cases h)
def places15 : List Sx.Place := []
def lawPc15 : Pc := [((.lt (.var 0 0 255) (.lit 82)), true), ((.lt (.var 0 0 255) (.lit 81)), false), ((.lt (.var 0 0 255) (.lit 80)), false), ((.lt (.var 0 0 255) (.lit 83)), true), ((.lt (.var 0 0 255) (.lit 78)), false), ((.lt (.var 0 0 255) (.lit 89)), true), ((.lt (.var 0 0 255) (.lit 67)), false)]
def exc15 : List Pc := []
theorem start15_yes : startYes Tryz.prog noGlob lawEv 300 lawBody lawFn 0 100000 places15 exc15 (psV lawPs 0) { nxt := 0, hp := .nil, pc := lawPc15 } = true := by kernel_rfl
theorem places15_yes : ∀ p ∈ places15, placeYes Tryz.prog noGlob lawEv 300 lawBody lawFn 0 100000 places15 exc15 p = true :=
  (fun p h => by cases h)
theorem places15_paths : ∀ p ∈ places15, pathsOk p.stk :=
  (fun p h => by cases h)
def places16 : List Sx.Place := []
def lawPc16 : Pc := [((.lt (.var 0 0 255) (.lit 82)), false), ((.lt (.var 0 0 255) (.lit 81)), false), ((.lt (.var 0 0 255) (.lit 80)), false), ((.lt (.var 0 0 255) (.lit 83)), true), ((.lt (.var 0 0 255) (.lit 78)), false), ((.lt (.var 0 0 255) (.lit 89)), true), ((.lt (.var 0 0 255) (.lit 67)), false)]
def exc16 : List Pc := []
theorem start16_yes : startYes Tryz.prog noGlob lawEv 300 lawBody lawFn 0 100000 places16 exc16 (psV lawPs 0) { nxt := 0, hp := .nil, pc := lawPc16 } = true := by kernel_rfl
theorem places16_yes : ∀ p ∈ places16, placeYes Tryz.prog noGlob lawEv 300 lawBody lawFn 0 100000 places16 exc16 p = true :=
  (fun p h => by cases h)
theorem places16_paths : ∀ p ∈ places16, pathsOk p.stk :=
  (fun p h => by cases h)
def places17 : List Sx.Place := []
def lawPc17 : Pc := [((.lt (.var 0 0 255) (.lit 84)), true), ((.lt (.var 0 0 255) (.lit 86)), true), ((.lt (.var 0 0 255) (.lit 83)), false), ((.lt (.var 0 0 255) (.lit 78)), false), ((.lt (.var 0 0 255) (.lit 89)), true), ((.lt (.var 0 0 255) (.lit 67)), false)]
def exc17 : List Pc := []
theorem start17_yes : startYes Tryz.prog noGlob lawEv 300 lawBody lawFn 0 100000 places17 exc17 (psV lawPs 0) { nxt := 0, hp := .nil, pc := lawPc17 } = true := by kernel_rfl
theorem places17_yes : ∀ p ∈ places17, placeYes Tryz.prog noGlob lawEv 300 lawBody lawFn 0 100000 places17 exc17 p = true :=
  (fun p h => by cases h)
theorem places17_paths : ∀ p ∈ places17, pathsOk p.stk :=
  (fun p h => by cases h)
def places18 : List Sx.Place := []
def lawPc18 : Pc := [((.lt (.var 0 0 255) (.lit 85)), true), ((.lt (.var 0 0 255) (.lit 84)), false), ((.lt (.var 0 0 255) (.lit 86)), true), ((.lt (.var 0 0 255) (.lit 83)), false), ((.lt (.var 0 0 255) (.lit 78)), false), ((.lt (.var 0 0 255) (.lit 89)), true), ((.lt (.var 0 0 255) (.lit 67)), false)]
def exc18 : List Pc := []
theorem start18_yes : startYes Tryz.prog noGlob lawEv 300 lawBody lawFn 0 100000 places18 exc18 (psV lawPs 0) { nxt := 0, hp := .nil, pc := lawPc18 } = true := by kernel_rfl
theorem places18_yes : ∀ p ∈ places18, placeYes Tryz.prog noGlob lawEv 300 lawBody lawFn 0 100000 places18 exc18 p = true :=
  (fun p h => by cases h)
theorem places18_paths : ∀ p ∈ places18, pathsOk p.stk :=
  (fun p h => by cases h)
def places19 : List Sx.Place := []
def lawPc19 : Pc := [((.lt (.var 0 0 255) (.lit 85)), false), ((.lt (.var 0 0 255) (.lit 84)), false), ((.lt (.var 0 0 255) (.lit 86)), true), ((.lt (.var 0 0 255) (.lit 83)), false), ((.lt (.var 0 0 255) (.lit 78)), false), ((.lt (.var 0 0 255) (.lit 89)), true), ((.lt (.var 0 0 255) (.lit 67)), false)]
def exc19 : List Pc := [[((.lt (.ar .xor .u64 (.var 1 0 18446744073709551615) (.lit 9223372036854775808)) (.ar .xor .u64 (.var 2 0 18446744073709551615) (.lit 9223372036854775808))), true), ((.lt (.conv .i64 (.var 2 0 18446744073709551615)) (.conv .i64 (.var 1 0 18446744073709551615))), true), ((.lt (.var 0 0 255) (.lit 85)), false), ((.lt (.var 0 0 255) (.lit 84)), false), ((.lt (.var 0 0 255) (.lit 86)), true), ((.lt (.var 0 0 255) (.lit 83)), false), ((.lt (.var 0 0 255) (.lit 78)), false), ((.lt (.var 0 0 255) (.lit 89)), true), ((.lt (.var 0 0 255) (.lit 67)), false)], [((.eq (.var 1 0 18446744073709551615) (.var 2 0 18446744073709551615)), false), ((.lt (.ar .xor .u64 (.var 1 0 18446744073709551615) (.lit 9223372036854775808)) (.ar .xor .u64 (.var 2 0 18446744073709551615) (.lit 9223372036854775808))), false), ((.lt (.conv .i64 (.var 2 0 18446744073709551615)) (.conv .i64 (.var 1 0 18446744073709551615))), false), ((.lt (.var 0 0 255) (.lit 85)), false), ((.lt (.var 0 0 255) (.lit 84)), false), ((.lt (.var 0 0 255) (.lit 86)), true), ((.lt (.var 0 0 255) (.lit 83)), false), ((.lt (.var 0 0 255) (.lit 78)), false), ((.lt (.var 0 0 255) (.lit 89)), true), ((.lt (.var 0 0 255) (.lit 67)), false)]]
theorem start19_yes : startYes Tryz.prog noGlob lawEv 300 lawBody lawFn 0 100000 places19 exc19 (psV lawPs 0) { nxt := 0, hp := .nil, pc := lawPc19 } = true := by kernel_rfl
theorem places19_yes : ∀ p ∈ places19, placeYes Tryz.prog noGlob lawEv 300 lawBody lawFn 0 100000 places19 exc19 p = true :=
  (fun p h => by cases h)
theorem places19_paths : ∀ p ∈ places19, pathsOk p.stk :=
  (fun p h => by cases h)
def places20 : List Sx.Place := []
def lawPc20 : Pc := [((.lt (.var 0 0 255) (.lit 87)), true), ((.lt (.var 0 0 255) (.lit 86)), false), ((.lt (.var 0 0 255) (.lit 83)), false), ((.lt (.var 0 0 255) (.lit 78)), false), ((.lt (.var 0 0 255) (.lit 89)), true), ((.lt (.var 0 0 255) (.lit 67)), false)]
def exc20 : List Pc := [[((.lt (.ar .xor .u64 (.var 2 0 18446744073709551615) (.lit 9223372036854775808)) (.ar .xor .u64 (.var 1 0 18446744073709551615) (.lit 9223372036854775808))), true), ((.lt (.conv .i64 (.var 1 0 18446744073709551615)) (.conv .i64 (.var 2 0 18446744073709551615))), true), ((.lt (.var 0 0 255) (.lit 87)), true), ((.lt (.var 0 0 255) (.lit 86)), false), ((.lt (.var 0 0 255) (.lit 83)), false), ((.lt (.var 0 0 255) (.lit 78)), false), ((.lt (.var 0 0 255) (.lit 89)), true), ((.lt (.var 0 0 255) (.lit 67)), false)], [((.eq (.var 1 0 18446744073709551615) (.var 2 0 18446744073709551615)), false), ((.lt (.ar .xor .u64 (.var 2 0 18446744073709551615) (.lit 9223372036854775808)) (.ar .xor .u64 (.var 1 0 18446744073709551615) (.lit 9223372036854775808))), false), ((.lt (.conv .i64 (.var 1 0 18446744073709551615)) (.conv .i64 (.var 2 0 18446744073709551615))), false), ((.lt (.var 0 0 255) (.lit 87)), true), ((.lt (.var 0 0 255) (.lit 86)), false), ((.lt (.var 0 0 255) (.lit 83)), false), ((.lt (.var 0 0 255) (.lit 78)), false), ((.lt (.var 0 0 255) (.lit 89)), true), ((.lt (.var 0 0 255) (.lit 67)), false)]]
theorem start20_yes : startYes Tryz.prog noGlob lawEv 300 lawBody lawFn 0 100000 places20 exc20 (psV lawPs 0) { nxt := 0, hp := .nil, pc := lawPc20 } = true := by kernel_rfl
theorem places20_yes : ∀ p ∈ places20, placeYes Tryz.prog noGlob lawEv 300 lawBody lawFn 0 100000 places20 exc20 p = true :=
  (fun p h => by cases h)
theorem places20_paths : ∀ p ∈ places20, pathsOk p.stk :=
  (fun p h => by cases h)
def places21 : List Sx.Place := []
def lawPc21 : Pc := [((.lt (.var 0 0 255) (.lit 88)), true), ((.lt (.var 0 0 255) (.lit 87)), false), ((.lt (.var 0 0 255) (.lit 86)), false), ((.lt (.var 0 0 255) (.lit 83)), false), ((.lt (.var 0 0 255) (.lit 78)), false), ((.lt (.var 0 0 255) (.lit 89)), true), ((.lt (.var 0 0 255) (.lit 67)), false)]
def exc21 : List Pc := []
theorem start21_yes : startYes Tryz.prog noGlob lawEv 300 lawBody lawFn 0 100000 places21 exc21 (psV lawPs 0) { nxt := 0, hp := .nil, pc := lawPc21 } = true := by kernel_rfl
theorem places21_yes : ∀ p ∈ places21, placeYes Tryz.prog noGlob lawEv 300 lawBody lawFn 0 100000 places21 exc21 p = true :=
  (fun p h => by cases h)
theorem places21_paths : ∀ p ∈ places21, pathsOk p.stk :=
  (fun p h => by cases h)
def places22 : List Sx.Place := []
def lawPc22 : Pc := [((.lt (.var 0 0 255) (.lit 88)), false), ((.lt (.var 0 0 255) (.lit 87)), false), ((.lt (.var 0 0 255) (.lit 86)), false), ((.lt (.var 0 0 255) (.lit 83)), false), ((.lt (.var 0 0 255) (.lit 78)), false), ((.lt (.var 0 0 255) (.lit 89)), true), ((.lt (.var 0 0 255) (.lit 67)), false)]
def exc22 : List Pc := []
theorem start22_yes : startYes Tryz.prog noGlob lawEv 300 lawBody lawFn 0 100000 places22 exc22 (psV lawPs 0) { nxt := 0, hp := .nil, pc := lawPc22 } = true := by kernel_rfl
theorem places22_yes : ∀ p ∈ places22, placeYes Tryz.prog noGlob lawEv 300 lawBody lawFn 0 100000 places22 exc22 p = true :=
  (fun p h => by cases h)
theorem places22_paths : ∀ p ∈ places22, pathsOk p.stk :=
  (fun p h => by cases h)
def places23 : List Sx.Place := []
def lawPc23 : Pc := [((.lt (.var 0 0 255) (.lit 89)), false), ((.lt (.var 0 0 255) (.lit 67)), false)]
def exc23 : List Pc := []
theorem start23_yes : startYes Tryz.prog noGlob lawEv 300 lawBody lawFn 0 100000 places23 exc23 (psV lawPs 0) { nxt := 0, hp := .nil, pc := lawPc23 } = true := by kernel_rfl
theorem places23_yes : ∀ p ∈ places23, placeYes Tryz.prog noGlob lawEv 300 lawBody lawFn 0 100000 places23 exc23 p = true :=
  (fun p h => by cases h)
theorem places23_paths : ∀ p ∈ places23, pathsOk p.stk :=
  (fun p h => by cases h)
end
end Go.Proofs.YtaebmaahbkgcoaaGreat.Sx
