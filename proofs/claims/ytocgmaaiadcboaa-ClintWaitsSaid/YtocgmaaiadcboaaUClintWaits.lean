/- ClintWaits: the places of its text that are come to again and again, and that all ways from one to the next are good. -/
import Derived.Test.YtocgmaaiadcboaaUc
namespace Go.Proofs.Ytocgmaaiadcboaa.Sx
open Go
set_option maxRecDepth 100000
noncomputable abbrev lawFn : Func := Try.f6
noncomputable abbrev lawBody : Code := ((Try.f6.body).getD .skip)
noncomputable abbrev lawEv : Ev := ev Try.prog noGlob noBase 300 30
def place0_0 : Sx.Place := { stk := [.co 244, .lo 244, .bl 0, .co 31], tm := [.n .u64 (.var 0 0 18446744073709551615), .n .u64 (.var 1 0 18446744073709551615), .n .u16 (.var 2 0 65535), .any 3, .any 4, .any 5, .any 6, .ptr 0 0, .n .u64 (.var 100 0 4096), .any 9, .any 10, .any 11, .any 12, .any 13, .any 14, .any 15, .any 16, .any 17, .any 18, .any 19, .any 20, .any 21, .any 22, .any 23, .any 24, .any 25, .any 26, .any 27, .any 28, .any 29, .any 30, .any 31, .any 32, .any 33, .any 34, .any 35, .any 36, .any 37, .any 38, .any 39, .any 40, .any 41, .any 42, .any 43, .any 44, .any 45, .any 46, .any 47, .any 48, .any 49, .any 50, .any 51, .any 52, .any 53, .any 54, .any 55, .any 56, .any 57, .any 58, .any 59, .any 60, .any 61, .any 62, .any 63], hp := [(0, .cells [.n .u64 (.lit 0), .n .u64 (.var 1 0 18446744073709551615), .n .u64 (.var 101 0 18446744073709551615)] 39)], nxt := 27, pc := [((.eq (.var 0 0 18446744073709551615) (.ar .sub .u64 (.var 101 0 18446744073709551615) (.var 100 0 4096))), true), ((.eq (.var 100 0 4096) (.ar .sub .u64 (.var 101 0 18446744073709551615) (.var 0 0 18446744073709551615))), true), ((.eq (.var 101 0 18446744073709551615) (.ar .add .u64 (.var 0 0 18446744073709551615) (.var 100 0 4096))), true)], vars := [(0, 0, 18446744073709551615), (1, 0, 18446744073709551615), (2, 0, 65535), (100, 0, 4096), (101, 0, 18446744073709551615)], meas := (.ar .add .i64 (.ar .mul .i64 (.ar .add .i64 (.ar .mul .i64 (.lit 0) (.lit 4098)) (.ar .sub .i64 (.lit 4096) (.conv .i64 (.var 100 0 4096)))) (.lit 64)) (.lit 0)) }
def places0 : List Sx.Place := [place0_0]
def lawArgs0 : List V := [.n .u64 (.var 0 0 18446744073709551615), .n .u64 (.var 1 0 18446744073709551615), .n .u16 (.var 2 0 65535)]
def lawHp0 : List (Nat × Blk) := []
def lawNxt0 : Nat := 0
def lawPc0 : Pc := []
def lawExc0 : List Pc := [[((.lt (.ar .add .u64 (.var 0 0 18446744073709551615) (.var 100 0 4096)) (.var 1 0 18446744073709551615)), true), ((.lt (.var 101 0 18446744073709551615) (.var 1 0 18446744073709551615)), false), ((.lt (.ar .add .u64 (.var 0 0 18446744073709551615) (.var 100 0 4096)) (.var 0 0 18446744073709551615)), false), ((.lt (.ar .rem .u16 (.var 2 0 65535) (.lit 301)) (.var 100 0 4096)), false), ((.eq (.var 0 0 18446744073709551615) (.ar .sub .u64 (.var 101 0 18446744073709551615) (.var 100 0 4096))), true), ((.eq (.var 100 0 4096) (.ar .sub .u64 (.var 101 0 18446744073709551615) (.var 0 0 18446744073709551615))), true), ((.eq (.var 101 0 18446744073709551615) (.ar .add .u64 (.var 0 0 18446744073709551615) (.var 100 0 4096))), true)], [((.lt (.ar .add .u64 (.var 0 0 18446744073709551615) (.var 100 0 4096)) (.var 1 0 18446744073709551615)), false), ((.lt (.var 101 0 18446744073709551615) (.var 1 0 18446744073709551615)), true), ((.lt (.ar .add .u64 (.var 0 0 18446744073709551615) (.var 100 0 4096)) (.var 0 0 18446744073709551615)), false), ((.lt (.ar .rem .u16 (.var 2 0 65535) (.lit 301)) (.var 100 0 4096)), false), ((.eq (.var 0 0 18446744073709551615) (.ar .sub .u64 (.var 101 0 18446744073709551615) (.var 100 0 4096))), true), ((.eq (.var 100 0 4096) (.ar .sub .u64 (.var 101 0 18446744073709551615) (.var 0 0 18446744073709551615))), true), ((.eq (.var 101 0 18446744073709551615) (.ar .add .u64 (.var 0 0 18446744073709551615) (.var 100 0 4096))), true)]]
def start0 : St := { nxt := lawNxt0, hp := hpOf lawHp0, pc := lawPc0 }
theorem place0_0_yes : placeYes Try.prog noGlob lawEv 300 lawBody lawFn 0 100000 places0 lawExc0 place0_0 = true := by kernel_rfl
theorem places0_yes : ∀ p ∈ places0, placeYes Try.prog noGlob lawEv 300 lawBody lawFn 0 100000 places0 lawExc0 p = true := by
  intro p hp
  simp only [places0, List.mem_cons, List.not_mem_nil, or_false] at hp
  rcases hp with rfl
  · exact place0_0_yes
theorem places0_paths : ∀ p ∈ places0, pathsOk p.stk := by
  intro p hp
  simp only [places0, List.mem_cons, List.not_mem_nil, or_false] at hp
  rcases hp with rfl
  · simp [place0_0, pathsOk]
theorem start0_yes : startYes Try.prog noGlob lawEv 300 lawBody lawFn 0 100000 places0 lawExc0 lawArgs0 start0 = true := by kernel_rfl
/-- What no numbers can be: the clock is v0 + v100, and below v1 just if that is. -/
theorem exc0_no : ∀ q ∈ lawExc0, ∀ i, ¬ Holds i q := by
  intro q hq i hh
  simp only [lawExc0, List.mem_cons, List.not_mem_nil, or_false] at hq
  rcases hq with rfl | rfl
  · have h1 := hh _ _ (.head _)
    have h2 := hh _ _ (.tail _ (.head _))
    have h7 := hh _ _ (.tail _ (.tail _ (.tail _ (.tail _ (.tail _ (.tail _ (.head _)))))))
    simp only [N.den, true_iff, Bool.false_eq_true, false_iff, bI_ne, ieq_iff, ilt_iff] at h1 h2 h7
    omega
  · have h1 := hh _ _ (.head _)
    have h2 := hh _ _ (.tail _ (.head _))
    have h7 := hh _ _ (.tail _ (.tail _ (.tail _ (.tail _ (.tail _ (.tail _ (.head _)))))))
    simp only [N.den, true_iff, Bool.false_eq_true, false_iff, bI_ne, ieq_iff, ilt_iff] at h1 h2 h7
    omega
end Go.Proofs.Ytocgmaaiadcboaa.Sx
