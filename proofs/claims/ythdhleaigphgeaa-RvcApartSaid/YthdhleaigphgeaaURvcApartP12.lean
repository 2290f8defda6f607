/- RvcApart: a part of its cases. -/
import Derived.Test.YthdhleaigphgeaaURvcApart
set_option linter.unusedVariables false
set_option linter.unusedSimpArgs false
namespace Go.Proofs.Ythdhleaigphgeaa.Sx
open Go
noncomputable section
set_option maxRecDepth 100000
def lawPc12 : Pc := [(q6, false), (q4, false), (q5, true), (q0, false), (q1, false), (q2, true), (q3, true)]
theorem start12_yes : lawStart lawPc12 = true := by kernel_rfl
def lawPc30 : Pc := [(q6, false), (q4, false), (q5, true), (q0, false), (q12, true), (q11, false), (q2, false), (q3, true)]
theorem start30_yes : lawStart lawPc30 = true := by kernel_rfl
def lawPc48 : Pc := [(q6, false), (q4, false), (q5, true), (q0, false), (q14, true), (q13, false), (q12, false), (q11, false), (q2, false), (q3, true)]
theorem start48_yes : lawStart lawPc48 = true := by kernel_rfl
def lawPc66 : Pc := [(q17, true), (q7, false), (q4, true), (q5, true), (q0, false), (q2, true), (q15, true), (q16, true), (q3, false)]
theorem start66_yes : lawStart lawPc66 = true := by kernel_rfl
def lawPc84 : Pc := [(q0, true), (q18, false), (q19, true), (q2, false), (q15, true), (q16, true), (q3, false)]
theorem start84_yes : lawStart lawPc84 = true := by kernel_rfl
def lawPc102 : Pc := [(q8, false), (q5, false), (q0, false), (q11, true), (q19, false), (q2, false), (q15, true), (q16, true), (q3, false)]
theorem start102_yes : lawStart lawPc102 = true := by kernel_rfl
def lawPc120 : Pc := [(q10, true), (q9, false), (q7, false), (q8, true), (q5, false), (q0, false), (q20, false), (q21, true), (q11, false), (q19, false), (q2, false), (q15, true), (q16, true), (q3, false)]
theorem start120_yes : lawStart lawPc120 = true := by kernel_rfl
def lawPc138 : Pc := [(q7, true), (q8, true), (q5, false), (q0, false), (q22, false), (q21, false), (q11, false), (q19, false), (q2, false), (q15, true), (q16, true), (q3, false)]
theorem start138_yes : lawStart lawPc138 = true := by kernel_rfl
def lawPc156 : Pc := [(q24, false), (q6, false), (q4, false), (q5, true), (q0, false), (q13, true), (q23, false), (q15, false), (q16, true), (q3, false)]
theorem start156_yes : lawStart lawPc156 = true := by kernel_rfl
def lawPc174 : Pc := [(q4, true), (q5, true), (q0, false), (q26, true), (q14, false), (q13, false), (q23, false), (q15, false), (q16, true), (q3, false)]
theorem start174_yes : lawStart lawPc174 = true := by kernel_rfl
def lawPc192 : Pc := [(q29, false), (q27, false), (q25, false), (q24, false), (q6, false), (q4, false), (q5, true), (q0, false), (q28, true), (q26, false), (q14, false), (q13, false), (q23, false), (q15, false), (q16, true), (q3, false)]
theorem start192_yes : lawStart lawPc192 = true := by kernel_rfl
def lawPc210 : Pc := [(q8, false), (q5, false), (q0, false), (q30, true), (q28, false), (q26, false), (q14, false), (q13, false), (q23, false), (q15, false), (q16, true), (q3, false)]
theorem start210_yes : lawStart lawPc210 = true := by kernel_rfl
def lawPc228 : Pc := [(q25, true), (q24, false), (q6, false), (q4, false), (q5, true), (q0, false), (q32, true), (q31, false), (q30, false), (q28, false), (q26, false), (q14, false), (q13, false), (q23, false), (q15, false), (q16, true), (q3, false)]
theorem start228_yes : lawStart lawPc228 = true := by kernel_rfl
def lawPc246 : Pc := [(q9, true), (q7, false), (q8, true), (q5, false), (q0, false), (q33, true), (q32, false), (q31, false), (q30, false), (q28, false), (q26, false), (q14, false), (q13, false), (q23, false), (q15, false), (q16, true), (q3, false)]
theorem start246_yes : lawStart lawPc246 = true := by kernel_rfl
def lawPc264 : Pc := [(q4, true), (q5, true), (q0, false), (q35, true), (q34, false), (q33, false), (q32, false), (q31, false), (q30, false), (q28, false), (q26, false), (q14, false), (q13, false), (q23, false), (q15, false), (q16, true), (q3, false)]
theorem start264_yes : lawStart lawPc264 = true := by kernel_rfl
def lawPc282 : Pc := [(q29, true), (q27, false), (q25, false), (q24, false), (q6, false), (q4, false), (q5, true), (q0, false), (q36, true), (q35, false), (q34, false), (q33, false), (q32, false), (q31, false), (q30, false), (q28, false), (q26, false), (q14, false), (q13, false), (q23, false), (q15, false), (q16, true), (q3, false)]
theorem start282_yes : lawStart lawPc282 = true := by kernel_rfl
def lawPc300 : Pc := [(q9, true), (q7, false), (q8, true), (q5, false), (q0, false), (q36, false), (q35, false), (q34, false), (q33, false), (q32, false), (q31, false), (q30, false), (q28, false), (q26, false), (q14, false), (q13, false), (q23, false), (q15, false), (q16, true), (q3, false)]
theorem start300_yes : lawStart lawPc300 = true := by kernel_rfl
def lawPc318 : Pc := [(q9, true), (q7, false), (q8, true), (q5, false), (q0, false), (q18, true), (q11, true), (q2, false), (q39, true), (q16, false), (q3, false)]
theorem start318_yes : lawStart lawPc318 = true := by kernel_rfl
def lawPc336 : Pc := [(q9, true), (q7, false), (q8, true), (q5, false), (q0, false), (q18, true), (q12, true), (q11, false), (q2, false), (q39, true), (q16, false), (q3, false)]
theorem start336_yes : lawStart lawPc336 = true := by kernel_rfl
def lawPc354 : Pc := [(q9, true), (q7, false), (q8, true), (q5, false), (q0, false), (q18, true), (q40, true), (q41, true), (q12, false), (q11, false), (q2, false), (q39, true), (q16, false), (q3, false)]
theorem start354_yes : lawStart lawPc354 = true := by kernel_rfl
def lawPc372 : Pc := [(q6, true), (q4, false), (q5, true), (q0, false), (q44, true), (q40, false), (q41, true), (q12, false), (q11, false), (q2, false), (q39, true), (q16, false), (q3, false)]
theorem start372_yes : lawStart lawPc372 = true := by kernel_rfl
def lawPc390 : Pc := [(q8, false), (q5, false), (q0, false), (q46, true), (q44, false), (q40, false), (q41, true), (q12, false), (q11, false), (q2, false), (q39, true), (q16, false), (q3, false)]
theorem start390_yes : lawStart lawPc390 = true := by kernel_rfl
def lawPc408 : Pc := [(q43, true), (q42, true), (q10, false), (q9, false), (q7, false), (q8, true), (q5, false), (q0, false), (q18, false), (q47, true), (q46, false), (q44, false), (q40, false), (q41, true), (q12, false), (q11, false), (q2, false), (q39, true), (q16, false), (q3, false)]
theorem start408_yes : lawStart lawPc408 = true := by kernel_rfl
def lawPc426 : Pc := [(q0, true), (q48, false), (q47, false), (q46, false), (q44, false), (q40, false), (q41, true), (q12, false), (q11, false), (q2, false), (q39, true), (q16, false), (q3, false)]
theorem start426_yes : lawStart lawPc426 = true := by kernel_rfl
def lawPc444 : Pc := [(q42, true), (q10, false), (q9, false), (q7, false), (q8, true), (q5, false), (q0, false), (q13, true), (q41, false), (q12, false), (q11, false), (q2, false), (q39, true), (q16, false), (q3, false)]
theorem start444_yes : lawStart lawPc444 = true := by kernel_rfl
def lawPc462 : Pc := [(q9, true), (q7, false), (q8, true), (q5, false), (q0, false), (q14, false), (q13, false), (q41, false), (q12, false), (q11, false), (q2, false), (q39, true), (q16, false), (q3, false)]
theorem start462_yes : lawStart lawPc462 = true := by kernel_rfl
end
end Go.Proofs.Ythdhleaigphgeaa.Sx
