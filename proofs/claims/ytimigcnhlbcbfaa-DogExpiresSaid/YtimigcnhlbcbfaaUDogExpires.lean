/- DogExpires: the places of its text that are come to again and again, and that all ways from one to the next are good. -/
import Derived.Test.YtimigcnhlbcbfaaUc
namespace Go.Proofs.Ytimigcnhlbcbfaa.Sx
open Go
set_option maxRecDepth 100000
noncomputable abbrev lawFn : Func := Try.f5
noncomputable abbrev lawBody : Code := ((Try.f5.body).getD .skip)
noncomputable abbrev lawEv : Ev := ev Try.prog noGlob noBase 300 30
def place0_0 : Sx.Place := { stk := [.co 1012, .lo 1012, .bl 0, .co 127], tm := [.n .u32 (.var 0 0 0), .sls 0 (.var 1 0 150), .any 2, .any 3, .any 4, .ptr 1 0, .n .u32 (.var 102 0 4294967295), .n .i64 (.var 100 0 255), .any 8, .any 9, .any 10, .any 11, .any 12, .any 13, .any 14, .any 15, .any 16, .any 17, .any 18, .any 19, .any 20, .any 21, .any 22, .any 23, .any 24, .any 25, .any 26, .any 27, .any 28, .any 29, .any 30, .any 31, .any 32, .any 33, .any 34, .any 35, .any 36, .any 37, .any 38, .any 39, .any 40, .any 41, .any 42, .any 43, .any 44, .any 45, .any 46, .any 47, .any 48, .any 49, .any 50, .any 51, .any 52, .any 53, .any 54, .any 55, .any 56, .any 57, .any 58, .any 59, .any 60, .any 61, .any 62, .any 63, .any 64, .any 65, .any 66, .any 67, .any 68, .any 69], hp := [(0, .row 1000 128 [some .u8, some .u64, some .u64, some .i64] (.var 1 0 150)), (1, .cells [.n .u32 (.var 0 0 0), .n .u32 (.lit 0)] 43)], nxt := 2, pc := [((.lt (.lit 150) (.var 1 0 150)), false), ((.eq (.var 0 0 0) (.lit 0)), true)], vars := [(0, 0, 0), (1, 0, 150), (100, 0, 255), (102, 0, 4294967295)], meas := (.ar .add .i64 (.ar .mul .i64 (.ar .add .i64 (.ar .mul .i64 (.lit 0) (.lit 257)) (.ar .sub .i64 (.lit 255) (.var 100 0 255))) (.lit 64)) (.lit 1)) }
def place0_1 : Sx.Place := { stk := [.co 518460, .co 518461, .co 259231, .bl 1, .co 4051, .lo 1012, .bl 0, .co 127], tm := [.n .u32 (.var 0 0 0), .sls 0 (.var 1 1 150), .any 2, .any 3, .any 4, .ptr 1 0, .n .u32 (.var 103 0 4294967295), .n .i64 (.var 101 0 255), .any 8, .b (.lit 0), .any 10, .any 11, .any 12, .any 13, .any 14, .any 15, .any 16, .any 17, .any 18, .any 19, .any 20, .any 21, .any 22, .any 23, .any 24, .any 25, .any 26, .any 27, .any 28, .any 29, .any 30, .any 31, .any 32, .any 33, .any 34, .any 35, .any 36, .any 37, .any 38, .any 39, .any 40, .any 41, .any 42, .any 43, .any 44, .any 45, .any 46, .any 47, .any 48, .any 49, .any 50, .any 51, .any 52, .any 53, .any 54, .any 55, .any 56, .any 57, .any 58, .any 59, .any 60, .any 61, .any 62, .any 63, .any 64, .any 65, .any 66, .any 67, .any 68, .any 69], hp := [(0, .row 1000 128 [some .u8, some .u64, some .u64, some .i64] (.var 1 1 150)), (1, .cells [.n .u32 (.var 0 0 0), .n .u32 (.lit 0)] 43)], nxt := 5, pc := [((.lt (.lit 0) (.var 1 1 150)), true), ((.lt (.lit 150) (.var 1 1 150)), false), ((.eq (.var 0 0 0) (.lit 0)), true), ((.lt (.var 101 0 255) (.var 1 1 150)), true), ((.lt (.var 103 0 4294967295) (.var 0 0 0)), false), ((.lt (.var 101 0 255) (.var 1 1 150)), true)], vars := [(0, 0, 0), (1, 1, 150), (101, 0, 255), (103, 0, 4294967295)], meas := (.ar .add .i64 (.ar .mul .i64 (.ar .add .i64 (.ar .mul .i64 (.lit 0) (.lit 257)) (.ar .sub .i64 (.lit 255) (.var 101 0 255))) (.lit 64)) (.lit 0)) }
def places0 : List Sx.Place := [place0_0, place0_1]
def lawArgs0 : List V := [.n .u32 (.var 0 0 4294967295), .sls 0 (.var 1 0 9223372036854775807)]
def lawHp0 : List (Nat × Blk) := [(0, .row 1000 128 [some .u8, some .u64, some .u64, some .i64] (.var 1 0 9223372036854775807))]
def lawNxt0 : Nat := 1
def lawPc0 : Pc := [((.eq (.var 0 0 4294967295) (.lit 0)), true)]
def lawExc0 : List Pc := []
def start0 : St := { nxt := lawNxt0, hp := hpOf lawHp0, pc := lawPc0 }
theorem place0_0_yes : placeYes Try.prog noGlob lawEv 300 lawBody lawFn 0 100000 places0 lawExc0 place0_0 = true := by kernel_rfl
theorem place0_1_yes : placeYes Try.prog noGlob lawEv 300 lawBody lawFn 0 100000 places0 lawExc0 place0_1 = true := by kernel_rfl
theorem places0_yes : ∀ p ∈ places0, placeYes Try.prog noGlob lawEv 300 lawBody lawFn 0 100000 places0 lawExc0 p = true := by
  intro p hp
  simp only [places0, List.mem_cons, List.not_mem_nil, or_false] at hp
  rcases hp with rfl | rfl
  · exact place0_0_yes
  · exact place0_1_yes
theorem places0_paths : ∀ p ∈ places0, pathsOk p.stk := by
  intro p hp
  simp only [places0, List.mem_cons, List.not_mem_nil, or_false] at hp
  rcases hp with rfl | rfl
  · simp [place0_0, pathsOk]
  · simp [place0_1, pathsOk]
theorem start0_yes : startYes Try.prog noGlob lawEv 300 lawBody lawFn 0 100000 places0 lawExc0 lawArgs0 start0 = true := by kernel_rfl
def place1_0 : Sx.Place := { stk := [.co 1012, .lo 1012, .bl 0, .co 127], tm := [.n .u32 (.var 0 1 4294967295), .sls 0 (.var 1 0 150), .any 2, .any 3, .any 4, .ptr 1 0, .n .u32 (.var 102 0 4294967295), .n .i64 (.var 100 0 255), .any 8, .any 9, .any 10, .any 11, .any 12, .any 13, .any 14, .any 15, .any 16, .any 17, .any 18, .any 19, .any 20, .any 21, .any 22, .any 23, .any 24, .any 25, .any 26, .any 27, .any 28, .any 29, .any 30, .any 31, .any 32, .any 33, .any 34, .any 35, .any 36, .any 37, .any 38, .any 39, .any 40, .any 41, .any 42, .any 43, .any 44, .any 45, .any 46, .any 47, .any 48, .any 49, .any 50, .any 51, .any 52, .any 53, .any 54, .any 55, .any 56, .any 57, .any 58, .any 59, .any 60, .any 61, .any 62, .any 63, .any 64, .any 65, .any 66, .any 67, .any 68, .any 69], hp := [(0, .row 1000 128 [some .u8, some .u64, some .u64, some .i64] (.var 1 0 150)), (1, .cells [.n .u32 (.var 0 1 4294967295), .n .u32 (.var 103 0 4294967295)] 43)], nxt := 2, pc := [((.lt (.lit 150) (.var 1 0 150)), false), ((.eq (.var 0 1 4294967295) (.lit 0)), false), ((.eq (.var 102 0 4294967295) (.var 103 0 4294967295)), true)], vars := [(0, 1, 4294967295), (1, 0, 150), (100, 0, 255), (102, 0, 4294967295), (103, 0, 4294967295)], meas := (.ar .add .i64 (.ar .mul .i64 (.ar .add .i64 (.ar .mul .i64 (.lit 0) (.lit 257)) (.ar .sub .i64 (.lit 255) (.var 100 0 255))) (.lit 64)) (.lit 1)) }
def place1_1 : Sx.Place := { stk := [.co 64806, .co 64807, .bl 1, .co 4051, .lo 1012, .bl 0, .co 127], tm := [.n .u32 (.var 0 1 4294967295), .sls 0 (.var 1 1 150), .any 2, .any 3, .any 4, .ptr 1 0, .n .u32 (.var 104 0 4294967295), .n .i64 (.var 101 0 255), .any 8, .any 9, .any 10, .any 11, .any 12, .any 13, .any 14, .any 15, .any 16, .any 17, .any 18, .any 19, .any 20, .any 21, .any 22, .any 23, .any 24, .any 25, .any 26, .any 27, .any 28, .any 29, .any 30, .any 31, .any 32, .any 33, .any 34, .any 35, .any 36, .any 37, .any 38, .any 39, .any 40, .any 41, .any 42, .any 43, .any 44, .any 45, .any 46, .any 47, .any 48, .any 49, .any 50, .any 51, .any 52, .any 53, .any 54, .any 55, .any 56, .any 57, .any 58, .any 59, .any 60, .any 61, .any 62, .any 63, .any 64, .any 65, .any 66, .any 67, .any 68, .any 69], hp := [(0, .row 1000 128 [some .u8, some .u64, some .u64, some .i64] (.var 1 1 150)), (1, .cells [.n .u32 (.var 0 1 4294967295), .n .u32 (.var 105 0 4294967295)] 43)], nxt := 3, pc := [((.lt (.lit 0) (.var 1 1 150)), true), ((.lt (.lit 150) (.var 1 1 150)), false), ((.eq (.var 0 1 4294967295) (.lit 0)), false), ((.lt (.var 101 0 255) (.var 1 1 150)), true), ((.eq (.var 104 0 4294967295) (.var 105 0 4294967295)), true), ((.lt (.var 101 0 255) (.var 1 1 150)), true)], vars := [(0, 1, 4294967295), (1, 1, 150), (101, 0, 255), (104, 0, 4294967295), (105, 0, 4294967295)], meas := (.ar .add .i64 (.ar .mul .i64 (.ar .add .i64 (.ar .mul .i64 (.lit 0) (.lit 257)) (.ar .sub .i64 (.lit 255) (.var 101 0 255))) (.lit 64)) (.lit 0)) }
def places1 : List Sx.Place := [place1_0, place1_1]
def lawArgs1 : List V := [.n .u32 (.var 0 0 4294967295), .sls 0 (.var 1 0 9223372036854775807)]
def lawHp1 : List (Nat × Blk) := [(0, .row 1000 128 [some .u8, some .u64, some .u64, some .i64] (.var 1 0 9223372036854775807))]
def lawNxt1 : Nat := 1
def lawPc1 : Pc := [((.eq (.var 0 0 4294967295) (.lit 0)), false)]
def lawExc1 : List Pc := []
def start1 : St := { nxt := lawNxt1, hp := hpOf lawHp1, pc := lawPc1 }
theorem place1_0_yes : placeYes Try.prog noGlob lawEv 300 lawBody lawFn 0 100000 places1 lawExc1 place1_0 = true := by kernel_rfl
theorem place1_1_yes : placeYes Try.prog noGlob lawEv 300 lawBody lawFn 0 100000 places1 lawExc1 place1_1 = true := by kernel_rfl
theorem places1_yes : ∀ p ∈ places1, placeYes Try.prog noGlob lawEv 300 lawBody lawFn 0 100000 places1 lawExc1 p = true := by
  intro p hp
  simp only [places1, List.mem_cons, List.not_mem_nil, or_false] at hp
  rcases hp with rfl | rfl
  · exact place1_0_yes
  · exact place1_1_yes
theorem places1_paths : ∀ p ∈ places1, pathsOk p.stk := by
  intro p hp
  simp only [places1, List.mem_cons, List.not_mem_nil, or_false] at hp
  rcases hp with rfl | rfl
  · simp [place1_0, pathsOk]
  · simp [place1_1, pathsOk]
theorem start1_yes : startYes Try.prog noGlob lawEv 300 lawBody lawFn 0 100000 places1 lawExc1 lawArgs1 start1 = true := by kernel_rfl
def emptyArgs : List V := [.n .u32 (.var 0 0 4294967295), .sls 0 (.lit 0)]
def nilArgs : List V := [.n .u32 (.var 0 0 4294967295), .nils]
theorem empty_yes : startYes Try.prog noGlob lawEv 300 lawBody lawFn 0 100000 [] [] emptyArgs { nxt := 1, hp := hpOf [(0, .dead)], pc := [] } = true := by kernel_rfl
theorem nil_yes : startYes Try.prog noGlob lawEv 300 lawBody lawFn 0 100000 [] [] nilArgs { nxt := 0, hp := .nil, pc := [] } = true := by kernel_rfl
end Go.Proofs.Ytimigcnhlbcbfaa.Sx
