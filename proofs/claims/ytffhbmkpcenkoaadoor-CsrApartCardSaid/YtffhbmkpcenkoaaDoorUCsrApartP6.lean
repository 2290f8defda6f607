/- CsrApart: a part of its cases. -/
import Derived.Test.YtffhbmkpcenkoaaDoorUCsrApart
set_option linter.unusedVariables false
set_option linter.unusedSimpArgs false
namespace Go.Proofs.YtffhbmkpcenkoaaDoor.Sx
open Go
noncomputable section
set_option maxRecDepth 100000
def lawPc6 : Pc := [(q10, true), (q9, false), (q2, false), (q3, true), (q4, true), (q5, true), (q6, true)]
theorem start6_yes : lawStart6 lawPc6 = true := by kernel_rfl
def lawPc18 : Pc := [(q0, false), (q1, true), (q2, true), (q12, true), (q4, false), (q5, true), (q6, true)]
theorem start18_yes : lawStart1 lawPc18 = true := by kernel_rfl
def lawPc30 : Pc := [(q8, false), (q9, true), (q2, false), (q13, true), (q14, true), (q12, false), (q4, false), (q5, true), (q6, true)]
theorem start30_yes : lawStart5 lawPc30 = true := by kernel_rfl
def lawPc42 : Pc := [(q0, false), (q1, true), (q2, true), (q16, true), (q15, false), (q13, false), (q14, true), (q12, false), (q4, false), (q5, true), (q6, true)]
theorem start42_yes : lawStart1 lawPc42 = true := by kernel_rfl
def lawPc54 : Pc := [(q8, true), (q9, true), (q2, false), (q14, false), (q12, false), (q4, false), (q5, true), (q6, true)]
theorem start54_yes : lawStart4 lawPc54 = true := by kernel_rfl
def lawPc66 : Pc := [(q0, true), (q1, true), (q2, true), (q20, true), (q17, false), (q18, true), (q19, true), (q5, false), (q6, true)]
theorem start66_yes : lawStart0 lawPc66 = true := by kernel_rfl
def lawPc78 : Pc := [(q8, true), (q9, true), (q2, false), (q21, true), (q20, false), (q17, false), (q18, true), (q19, true), (q5, false), (q6, true)]
theorem start78_yes : lawStart4 lawPc78 = true := by kernel_rfl
def lawPc90 : Pc := [(q0, true), (q1, true), (q2, true), (q23, true), (q22, false), (q21, false), (q20, false), (q17, false), (q18, true), (q19, true), (q5, false), (q6, true)]
theorem start90_yes : lawStart0 lawPc90 = true := by kernel_rfl
def lawPc102 : Pc := [(q7, false), (q1, false), (q2, true), (q24, true), (q18, false), (q19, true), (q5, false), (q6, true)]
theorem start102_yes : lawStart3 lawPc102 = true := by kernel_rfl
def lawPc114 : Pc := [(q10, false), (q9, false), (q2, false), (q25, true), (q24, false), (q18, false), (q19, true), (q5, false), (q6, true)]
theorem start114_yes : lawStart7 lawPc114 = true := by kernel_rfl
def lawPc126 : Pc := [(q7, true), (q1, false), (q2, true), (q27, true), (q28, true), (q26, false), (q19, false), (q5, false), (q6, true)]
theorem start126_yes : lawStart2 lawPc126 = true := by kernel_rfl
def lawPc138 : Pc := [(q10, true), (q9, false), (q2, false), (q29, true), (q27, false), (q28, true), (q26, false), (q19, false), (q5, false), (q6, true)]
theorem start138_yes : lawStart6 lawPc138 = true := by kernel_rfl
def lawPc150 : Pc := [(q7, true), (q1, false), (q2, true), (q31, true), (q30, false), (q29, false), (q27, false), (q28, true), (q26, false), (q19, false), (q5, false), (q6, true)]
theorem start150_yes : lawStart2 lawPc150 = true := by kernel_rfl
def lawPc162 : Pc := [(q10, true), (q9, false), (q2, false), (q32, true), (q31, false), (q30, false), (q29, false), (q27, false), (q28, true), (q26, false), (q19, false), (q5, false), (q6, true)]
theorem start162_yes : lawStart6 lawPc162 = true := by kernel_rfl
def lawPc174 : Pc := [(q7, true), (q1, false), (q2, true), (q34, true), (q33, false), (q32, false), (q31, false), (q30, false), (q29, false), (q27, false), (q28, true), (q26, false), (q19, false), (q5, false), (q6, true)]
theorem start174_yes : lawStart2 lawPc174 = true := by kernel_rfl
def lawPc186 : Pc := [(q8, false), (q9, true), (q2, false), (q28, false), (q26, false), (q19, false), (q5, false), (q6, true)]
theorem start186_yes : lawStart5 lawPc186 = true := by kernel_rfl
def lawPc198 : Pc := [(q0, false), (q1, true), (q2, true), (q39, true), (q35, false), (q36, true), (q37, true), (q38, true), (q6, false)]
theorem start198_yes : lawStart1 lawPc198 = true := by kernel_rfl
def lawPc210 : Pc := [(q8, false), (q9, true), (q2, false), (q40, true), (q39, false), (q35, false), (q36, true), (q37, true), (q38, true), (q6, false)]
theorem start210_yes : lawStart5 lawPc210 = true := by kernel_rfl
def lawPc222 : Pc := [(q0, false), (q1, true), (q2, true), (q42, true), (q41, false), (q40, false), (q39, false), (q35, false), (q36, true), (q37, true), (q38, true), (q6, false)]
theorem start222_yes : lawStart1 lawPc222 = true := by kernel_rfl
def lawPc234 : Pc := [(q8, true), (q9, true), (q2, false), (q43, true), (q36, false), (q37, true), (q38, true), (q6, false)]
theorem start234_yes : lawStart4 lawPc234 = true := by kernel_rfl
def lawPc246 : Pc := [((.eq (.var 31 0 65535) (.lit 928)), false), ((.lt (.var 31 0 65535) (.lit 928)), false), ((.lt (.var 31 0 65535) (.lit 837)), false), ((.lt (.var 31 0 65535) (.lit 929)), true), ((.lt (.var 31 0 65535) (.lit 2816)), true), ((.lt (.var 31 0 65535) (.lit 832)), false)]
theorem x246_no (i : Nat → Int) (hh : Holds i lawPc246) : False := by
  have h0 := hh _ _ (.head _)
  have h1 := hh _ _ (.tail _ (.head _))
  have h2 := hh _ _ (.tail _ (.tail _ (.head _)))
  have h3 := hh _ _ (.tail _ (.tail _ (.tail _ (.head _))))
  have h4 := hh _ _ (.tail _ (.tail _ (.tail _ (.tail _ (.head _)))))
  have h5 := hh _ _ (.tail _ (.tail _ (.tail _ (.tail _ (.tail _ (.head _))))))
  clear hh
  simp only [N.den, true_iff, Bool.false_eq_true, false_iff, bI_ne, ieq_iff, ilt_iff, Classical.not_not, ne_eq] at h0 h1 h2 h3 h4 h5
  omega
def lawPc258 : Pc := [(q7, false), (q1, false), (q2, true), (q46, true), (q47, true), (q45, false), (q37, false), (q38, true), (q6, false)]
theorem start258_yes : lawStart3 lawPc258 = true := by kernel_rfl
def lawPc270 : Pc := [(q10, false), (q9, false), (q2, false), (q48, true), (q46, false), (q47, true), (q45, false), (q37, false), (q38, true), (q6, false)]
theorem start270_yes : lawStart7 lawPc270 = true := by kernel_rfl
def lawPc282 : Pc := [(q7, false), (q1, false), (q2, true), (q50, true), (q49, false), (q48, false), (q46, false), (q47, true), (q45, false), (q37, false), (q38, true), (q6, false)]
theorem start282_yes : lawStart3 lawPc282 = true := by kernel_rfl
def lawPc294 : Pc := [(q10, false), (q9, false), (q2, false), (q51, true), (q50, false), (q49, false), (q48, false), (q46, false), (q47, true), (q45, false), (q37, false), (q38, true), (q6, false)]
theorem start294_yes : lawStart7 lawPc294 = true := by kernel_rfl
def lawPc306 : Pc := [(q7, false), (q1, false), (q2, true), (q53, true), (q52, false), (q51, false), (q50, false), (q49, false), (q48, false), (q46, false), (q47, true), (q45, false), (q37, false), (q38, true), (q6, false)]
theorem start306_yes : lawStart3 lawPc306 = true := by kernel_rfl
def lawPc318 : Pc := [(q10, false), (q9, false), (q2, false), (q54, true), (q53, false), (q52, false), (q51, false), (q50, false), (q49, false), (q48, false), (q46, false), (q47, true), (q45, false), (q37, false), (q38, true), (q6, false)]
theorem start318_yes : lawStart7 lawPc318 = true := by kernel_rfl
def lawPc330 : Pc := [(q7, true), (q1, false), (q2, true), (q55, true), (q56, true), (q57, true), (q38, false), (q6, false)]
theorem start330_yes : lawStart2 lawPc330 = true := by kernel_rfl
def lawPc342 : Pc := [(q10, true), (q9, false), (q2, false), (q58, true), (q55, false), (q56, true), (q57, true), (q38, false), (q6, false)]
theorem start342_yes : lawStart6 lawPc342 = true := by kernel_rfl
def lawPc354 : Pc := [(q7, true), (q1, false), (q2, true), (q59, true), (q56, false), (q57, true), (q38, false), (q6, false)]
theorem start354_yes : lawStart2 lawPc354 = true := by kernel_rfl
def lawPc366 : Pc := [(q10, true), (q9, false), (q2, false), (q60, true), (q59, false), (q56, false), (q57, true), (q38, false), (q6, false)]
theorem start366_yes : lawStart6 lawPc366 = true := by kernel_rfl
def lawPc378 : Pc := [(q7, true), (q1, false), (q2, true), (q62, true), (q61, false), (q60, false), (q59, false), (q56, false), (q57, true), (q38, false), (q6, false)]
theorem start378_yes : lawStart2 lawPc378 = true := by kernel_rfl
def lawPc390 : Pc := [(q8, false), (q9, true), (q2, false), (q63, true), (q57, false), (q38, false), (q6, false)]
theorem start390_yes : lawStart5 lawPc390 = true := by kernel_rfl
def lawPc402 : Pc := [(q0, false), (q1, true), (q2, true), (q66, true), (q64, false), (q65, true), (q63, false), (q57, false), (q38, false), (q6, false)]
theorem start402_yes : lawStart1 lawPc402 = true := by kernel_rfl
def lawPc414 : Pc := [(q8, false), (q9, true), (q2, false), (q67, true), (q66, false), (q64, false), (q65, true), (q63, false), (q57, false), (q38, false), (q6, false)]
theorem start414_yes : lawStart5 lawPc414 = true := by kernel_rfl
def lawPc426 : Pc := [(q0, true), (q1, true), (q2, true), (q65, false), (q63, false), (q57, false), (q38, false), (q6, false)]
theorem start426_yes : lawStart0 lawPc426 = true := by kernel_rfl
end
end Go.Proofs.YtffhbmkpcenkoaaDoor.Sx
