/- DogKept: the places of its text that are come to again and again, and that all ways from one to the next are good. -/
import Derived.Test.YtimigcnhlbcbfaaUc
namespace Go.Proofs.Ytimigcnhlbcbfaa.Sx
open Go
set_option maxRecDepth 100000
noncomputable abbrev lawFn : Func := Try.f6
noncomputable abbrev lawBody : Code := ((Try.f6.body).getD .skip)
noncomputable abbrev lawEv : Ev := ev Try.prog noGlob noBase 300 30
def place0_0 : Sx.Place := { stk := [.co 244, .lo 244, .bl 0, .co 31], tm := [.n .u32 (.var 0 2 4294967295), .sls 0 (.var 1 0 60), .any 2, .any 3, .any 4, .ptr 1 0, .n .i64 (.var 102 0 255), .any 7, .any 8, .any 9, .any 10, .any 11, .any 12, .any 13, .any 14, .any 15, .any 16, .any 17, .any 18, .any 19, .any 20, .any 21, .any 22, .any 23, .any 24, .any 25, .any 26, .any 27, .any 28, .any 29, .any 30, .any 31, .any 32, .any 33, .any 34, .any 35, .any 36, .any 37, .any 38, .any 39, .any 40, .any 41, .any 42, .any 43, .any 44, .any 45, .any 46, .any 47, .any 48, .any 49, .any 50, .any 51, .any 52, .any 53, .any 54, .any 55, .any 56, .any 57, .any 58, .any 59, .any 60], hp := [(0, .row 1000 128 [some .u8] (.var 1 0 60)), (1, .cells [.n .u32 (.var 0 2 4294967295), .n .u32 (.lit 0)] 43)], nxt := 2, pc := [((.lt (.lit 60) (.var 1 0 60)), false), ((.lt (.var 0 2 4294967295) (.lit 2)), false)], vars := [(0, 2, 4294967295), (1, 0, 60), (102, 0, 255)], meas := (.ar .add .i64 (.ar .mul .i64 (.ar .add .i64 (.ar .mul .i64 (.ar .add .i64 (.ar .mul .i64 (.lit 0) (.lit 257)) (.ar .sub .i64 (.lit 255) (.var 102 0 255))) (.lit 257)) (.lit 256)) (.lit 64)) (.lit 0)) }
def place0_1 : Sx.Place := { stk := [.co 31300, .lo 31300, .bl 2, .co 3913, .bl 1, .co 979, .lo 244, .bl 0, .co 31], tm := [.n .u32 (.var 0 2 4294967295), .sls 0 (.var 1 1 60), .any 2, .any 3, .any 4, .ptr 1 0, .n .i64 (.var 103 0 255), .n .u32 (.var 100 0 255), .any 8, .any 9, .any 10, .any 11, .any 12, .any 13, .any 14, .any 15, .any 16, .any 17, .any 18, .any 19, .any 20, .any 21, .any 22, .any 23, .any 24, .any 25, .any 26, .any 27, .any 28, .any 29, .any 30, .any 31, .any 32, .any 33, .any 34, .any 35, .any 36, .any 37, .any 38, .any 39, .any 40, .any 41, .any 42, .any 43, .any 44, .any 45, .any 46, .any 47, .any 48, .any 49, .any 50, .any 51, .any 52, .any 53, .any 54, .any 55, .any 56, .any 57, .any 58, .any 59, .any 60], hp := [(0, .row 1000 128 [some .u8] (.var 1 1 60)), (1, .cells [.n .u32 (.var 0 2 4294967295), .n .u32 (.var 101 0 4294967295)] 43)], nxt := 2, pc := [((.lt (.lit 0) (.var 1 1 60)), true), ((.lt (.lit 60) (.var 1 1 60)), false), ((.lt (.var 0 2 4294967295) (.lit 2)), false), ((.lt (.var 103 0 255) (.var 1 1 60)), true), ((.eq (.var 0 2 4294967295) (.var 101 0 4294967295)), false), ((.lt (.var 103 0 255) (.var 1 1 60)), true), ((.eq (.var 100 0 255) (.var 101 0 4294967295)), true)], vars := [(0, 2, 4294967295), (1, 1, 60), (100, 0, 255), (101, 0, 4294967295), (103, 0, 255)], meas := (.ar .add .i64 (.ar .mul .i64 (.ar .add .i64 (.ar .mul .i64 (.ar .add .i64 (.ar .mul .i64 (.lit 0) (.lit 257)) (.ar .sub .i64 (.lit 255) (.var 103 0 255))) (.lit 257)) (.ar .sub .i64 (.lit 255) (.conv .i64 (.var 100 0 255)))) (.lit 64)) (.lit 0)) }
def places0 : List Sx.Place := [place0_0, place0_1]
def lawArgs0 : List V := [.n .u32 (.var 0 0 4294967295), .sls 0 (.var 1 0 9223372036854775807)]
def lawHp0 : List (Nat × Blk) := [(0, .row 1000 128 [some .u8] (.var 1 0 9223372036854775807))]
def lawNxt0 : Nat := 1
def lawPc0 : Pc := []
def lawExc0 : List Pc := [[((.eq (.ar .add .u32 (.var 101 0 4294967295) (.lit 1)) (.var 0 2 4294967295)), true), ((.lt (.var 100 0 255) (.ar .rem .u32 (.ar .rem .u8 (.sel 1000 128 (.var 103 0 255) 0 255) (.lit 20)) (.var 0 2 4294967295))), true), ((.lt (.lit 0) (.var 1 1 60)), true), ((.lt (.lit 60) (.var 1 1 60)), false), ((.lt (.var 0 2 4294967295) (.lit 2)), false), ((.lt (.var 103 0 255) (.var 1 1 60)), true), ((.eq (.var 0 2 4294967295) (.var 101 0 4294967295)), false), ((.lt (.var 103 0 255) (.var 1 1 60)), true), ((.eq (.var 100 0 255) (.var 101 0 4294967295)), true)]]
def start0 : St := { nxt := lawNxt0, hp := hpOf lawHp0, pc := lawPc0 }
theorem place0_0_yes : placeYes Try.prog noGlob lawEv 300 lawBody lawFn 0 100000 places0 lawExc0 place0_0 = true := by kernel_rfl
theorem place0_1_yes : placeYes Try.prog noGlob lawEv 300 lawBody lawFn 0 100000 places0 lawExc0 place0_1 = true := by kernel_rfl
theorem places0_yes : ∀ p ∈ places0, placeYes Try.prog noGlob lawEv 300 lawBody lawFn 0 100000 places0 lawExc0 p = true := by
  intro p hp
  simp only [places0, List.mem_cons, List.not_mem_nil, or_false] at hp
  rcases hp with rfl | rfl
  · exact place0_0_yes
  · exact place0_1_yes
theorem places0_paths : ∀ p ∈ places0, pathsOk p.stk := by
  intro p hp
  simp only [places0, List.mem_cons, List.not_mem_nil, or_false] at hp
  rcases hp with rfl | rfl
  · simp [place0_0, pathsOk]
  · simp [place0_1, pathsOk]
theorem start0_yes : startYes Try.prog noGlob lawEv 300 lawBody lawFn 0 100000 places0 lawExc0 lawArgs0 start0 = true := by kernel_rfl
/-- What no numbers can be: a number below a rest of v0, and one below v0. -/
theorem exc0_no : ∀ q ∈ lawExc0, ∀ i, ¬ Holds i q := by
  intro q hq i hh
  rw [lawExc0, List.mem_singleton] at hq
  subst hq
  have h1 := hh _ _ (.head _)
  have h2 := hh _ _ (.tail _ (.head _))
  have h9 := hh _ _ (.tail _ (.tail _ (.tail _ (.tail _ (.tail _ (.tail _ (.tail _ (.tail _ (.head _)))))))))
  simp only [N.den, true_iff, bI_ne, ieq_iff, ilt_iff, arF] at h1 h2 h9
  have hr := Int.tmod_lt_of_pos ((max 0 (min 255 (i (1000 + 128 * (max 0 (min 255 (i 103))).toNat)))).tmod 20) (b := max 2 (min 4294967295 (i 0))) (by omega)
  have k0 : kLo .u32 = 0 := rfl
  have k1 : kHi .u32 = 4294967295 := rfl
  by_cases hc : max 0 (min 4294967295 (i 101)) + 1 ≤ kHi .u32
  · rw [ofLow_same .u32 ⟨by omega, hc⟩] at h1
    omega
  · have : max 0 (min 4294967295 (i 101)) = 4294967295 := by omega
    rw [this] at h1
    have z : wrapF .u32 (4294967295 + 1) = 0 := by kernel_rfl
    omega
def emptyArgs : List V := [.n .u32 (.var 0 0 4294967295), .sls 0 (.lit 0)]
def nilArgs : List V := [.n .u32 (.var 0 0 4294967295), .nils]
theorem empty_yes : startYes Try.prog noGlob lawEv 300 lawBody lawFn 0 100000 [] [] emptyArgs { nxt := 1, hp := hpOf [(0, .dead)], pc := [] } = true := by kernel_rfl
theorem nil_yes : startYes Try.prog noGlob lawEv 300 lawBody lawFn 0 100000 [] [] nilArgs { nxt := 0, hp := .nil, pc := [] } = true := by kernel_rfl
end Go.Proofs.Ytimigcnhlbcbfaa.Sx
