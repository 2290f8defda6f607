/- PmpSizes: a part of its cases. -/
import Derived.Test.YtamndkfgcgoacaaDoorUPmpSizes
set_option linter.unusedVariables false
set_option linter.unusedSimpArgs false
namespace Go.Proofs.YtamndkfgcgoacaaDoor.Sx
open Go
noncomputable section
set_option maxRecDepth 100000
def lawPc2 : Pc := [(q3, false), (q2, true), (q0, true), (q1, true)]
theorem start2_yes : lawStart lawPc2 = true := by kernel_rfl
def lawPc13 : Pc := [(q13, true), (q12, true), (q11, true), (q10, true), (q9, true), (q8, true), (q7, true), (q6, true), (q5, true), (q4, true), (q3, true), (q2, true), (q0, true), (q1, true)]
theorem start13_yes : lawStart lawPc13 = true := by kernel_rfl
def lawPc24 : Pc := [(q25, false), (q24, true), (q23, true), (q22, true), (q21, true), (q20, true), (q19, true), (q18, true), (q17, true), (q16, true), (q14, true), (q15, true), (q1, false)]
theorem start24_yes : lawStart lawPc24 = true := by kernel_rfl
def lawPc35 : Pc := [(q36, false), (q35, true), (q34, true), (q33, true), (q32, true), (q31, true), (q30, true), (q28, true), (q29, true), (q15, false), (q1, false)]
theorem start35_yes : lawStart lawPc35 = true := by kernel_rfl
def lawPc46 : Pc := [(q47, false), (q46, true), (q45, true), (q44, true), (q42, true), (q43, true), (q29, false), (q15, false), (q1, false)]
theorem start46_yes : lawStart lawPc46 = true := by kernel_rfl
def lawPc57 : Pc := [(q58, false), (q56, true), (q57, true), (q43, false), (q29, false), (q15, false), (q1, false)]
theorem start57_yes : lawStart lawPc57 = true := by kernel_rfl
def lawPc68 : Pc := [(q69, false), (q68, true), (q67, true), (q66, true), (q65, true), (q64, true), (q63, true), (q62, true), (q61, true), (q60, true), (q59, true), (q58, true), (q56, true), (q57, true), (q43, false), (q29, false), (q15, false), (q1, false)]
theorem start68_yes : lawStart lawPc68 = true := by kernel_rfl
def lawPc79 : Pc := [(q80, false), (q79, true), (q78, true), (q77, true), (q76, true), (q75, true), (q74, true), (q73, true), (q72, true), (q70, true), (q71, true), (q57, false), (q43, false), (q29, false), (q15, false), (q1, false)]
theorem start79_yes : lawStart lawPc79 = true := by kernel_rfl
def lawPc90 : Pc := [(q91, false), (q90, true), (q89, true), (q88, true), (q87, true), (q86, true), (q84, true), (q85, true), (q71, false), (q57, false), (q43, false), (q29, false), (q15, false), (q1, false)]
theorem start90_yes : lawStart lawPc90 = true := by kernel_rfl
def lawPc101 : Pc := [(q102, false), (q101, true), (q100, true), (q98, true), (q99, true), (q85, false), (q71, false), (q57, false), (q43, false), (q29, false), (q15, false), (q1, false)]
theorem start101_yes : lawStart lawPc101 = true := by kernel_rfl
def lawPc112 : Pc := [((.eq (.ar .rem .u8 (.var 9 0 255) (.lit 8)) (.lit 7)), false), ((.eq (.ar .rem .u8 (.var 9 0 255) (.lit 8)) (.lit 6)), false), ((.eq (.ar .rem .u8 (.var 9 0 255) (.lit 8)) (.lit 5)), false), ((.eq (.ar .rem .u8 (.var 9 0 255) (.lit 8)) (.lit 4)), false), ((.eq (.ar .rem .u8 (.var 9 0 255) (.lit 8)) (.lit 3)), false), ((.eq (.ar .rem .u8 (.var 9 0 255) (.lit 8)) (.lit 2)), false), ((.eq (.ar .rem .u8 (.var 9 0 255) (.lit 8)) (.lit 1)), false), ((.eq (.ar .rem .u8 (.var 9 0 255) (.lit 8)) (.lit 0)), false)]
theorem x112_no (i : Nat → Int) (hh : Holds i lawPc112) : False := by
  have h0 := hh _ _ (.head _)
  have h1 := hh _ _ (.tail _ (.head _))
  have h2 := hh _ _ (.tail _ (.tail _ (.head _)))
  have h3 := hh _ _ (.tail _ (.tail _ (.tail _ (.head _))))
  have h4 := hh _ _ (.tail _ (.tail _ (.tail _ (.tail _ (.head _)))))
  have h5 := hh _ _ (.tail _ (.tail _ (.tail _ (.tail _ (.tail _ (.head _))))))
  have h6 := hh _ _ (.tail _ (.tail _ (.tail _ (.tail _ (.tail _ (.tail _ (.head _)))))))
  have h7 := hh _ _ (.tail _ (.tail _ (.tail _ (.tail _ (.tail _ (.tail _ (.tail _ (.head _))))))))
  clear hh
  simp only [N.den, true_iff, Bool.false_eq_true, false_iff, bI_ne, ieq_iff, ilt_iff, Classical.not_not, ne_eq] at h0 h1 h2 h3 h4 h5 h6 h7
  simp only [arF] at h0 h1 h2 h3 h4 h5 h6 h7
  have hx : 0 ≤ max 0 (min 255 (i 9)) := by omega
  rw [Int.tmod_eq_emod_of_nonneg hx] at h0 h1 h2 h3 h4 h5 h6 h7
  generalize max 0 (min 255 (i 9)) = x at *
  omega
end
end Go.Proofs.YtamndkfgcgoacaaDoor.Sx
