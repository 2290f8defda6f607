/- RvcApart: a part of its cases. -/
import Derived.Test.YthdhleaigphgeaaURvcApart
set_option linter.unusedVariables false
set_option linter.unusedSimpArgs false
namespace Go.Proofs.Ythdhleaigphgeaa.Sx
open Go
noncomputable section
set_option maxRecDepth 100000
def lawPc9 : Pc := [(q0, true), (q1, false), (q2, true), (q3, true)]
theorem start9_yes : lawStart lawPc9 = true := by kernel_rfl
def lawPc27 : Pc := [(q0, true), (q12, true), (q11, false), (q2, false), (q3, true)]
theorem start27_yes : lawStart lawPc27 = true := by kernel_rfl
def lawPc45 : Pc := [(q0, true), (q14, true), (q13, false), (q12, false), (q11, false), (q2, false), (q3, true)]
theorem start45_yes : lawStart lawPc45 = true := by kernel_rfl
def lawPc63 : Pc := [(q8, false), (q5, false), (q0, false), (q14, false), (q13, false), (q12, false), (q11, false), (q2, false), (q3, true)]
theorem start63_yes : lawStart lawPc63 = true := by kernel_rfl
def lawPc81 : Pc := [(q10, true), (q9, false), (q7, false), (q8, true), (q5, false), (q0, false), (q18, true), (q19, true), (q2, false), (q15, true), (q16, true), (q3, false)]
theorem start81_yes : lawStart lawPc81 = true := by kernel_rfl
def lawPc99 : Pc := [(q9, true), (q7, false), (q8, true), (q5, false), (q0, false), (q11, true), (q19, false), (q2, false), (q15, true), (q16, true), (q3, false)]
theorem start99_yes : lawStart lawPc99 = true := by kernel_rfl
def lawPc117 : Pc := [(q6, false), (q4, false), (q5, true), (q0, false), (q20, false), (q21, true), (q11, false), (q19, false), (q2, false), (q15, true), (q16, true), (q3, false)]
theorem start117_yes : lawStart lawPc117 = true := by kernel_rfl
def lawPc135 : Pc := [(q17, false), (q7, false), (q4, true), (q5, true), (q0, false), (q22, false), (q21, false), (q11, false), (q19, false), (q2, false), (q15, true), (q16, true), (q3, false)]
theorem start135_yes : lawStart lawPc135 = true := by kernel_rfl
def lawPc153 : Pc := [(q4, true), (q5, true), (q0, false), (q13, true), (q23, false), (q15, false), (q16, true), (q3, false)]
theorem start153_yes : lawStart lawPc153 = true := by kernel_rfl
def lawPc171 : Pc := [(q10, false), (q9, false), (q7, false), (q8, true), (q5, false), (q0, false), (q14, true), (q13, false), (q23, false), (q15, false), (q16, true), (q3, false)]
theorem start171_yes : lawStart lawPc171 = true := by kernel_rfl
def lawPc189 : Pc := [(q25, true), (q24, false), (q6, false), (q4, false), (q5, true), (q0, false), (q28, true), (q26, false), (q14, false), (q13, false), (q23, false), (q15, false), (q16, true), (q3, false)]
theorem start189_yes : lawStart lawPc189 = true := by kernel_rfl
def lawPc207 : Pc := [(q9, true), (q7, false), (q8, true), (q5, false), (q0, false), (q30, true), (q28, false), (q26, false), (q14, false), (q13, false), (q23, false), (q15, false), (q16, true), (q3, false)]
theorem start207_yes : lawStart lawPc207 = true := by kernel_rfl
def lawPc225 : Pc := [(q4, true), (q5, true), (q0, false), (q32, true), (q31, false), (q30, false), (q28, false), (q26, false), (q14, false), (q13, false), (q23, false), (q15, false), (q16, true), (q3, false)]
theorem start225_yes : lawStart lawPc225 = true := by kernel_rfl
def lawPc243 : Pc := [(q29, true), (q27, false), (q25, false), (q24, false), (q6, false), (q4, false), (q5, true), (q0, false), (q33, true), (q32, false), (q31, false), (q30, false), (q28, false), (q26, false), (q14, false), (q13, false), (q23, false), (q15, false), (q16, true), (q3, false)]
theorem start243_yes : lawStart lawPc243 = true := by kernel_rfl
def lawPc261 : Pc := [(q10, false), (q9, false), (q7, false), (q8, true), (q5, false), (q0, false), (q34, true), (q33, false), (q32, false), (q31, false), (q30, false), (q28, false), (q26, false), (q14, false), (q13, false), (q23, false), (q15, false), (q16, true), (q3, false)]
theorem start261_yes : lawStart lawPc261 = true := by kernel_rfl
def lawPc279 : Pc := [(q24, true), (q6, false), (q4, false), (q5, true), (q0, false), (q36, true), (q35, false), (q34, false), (q33, false), (q32, false), (q31, false), (q30, false), (q28, false), (q26, false), (q14, false), (q13, false), (q23, false), (q15, false), (q16, true), (q3, false)]
theorem start279_yes : lawStart lawPc279 = true := by kernel_rfl
def lawPc297 : Pc := [(q38, true), (q37, false), (q29, false), (q27, false), (q25, false), (q24, false), (q6, false), (q4, false), (q5, true), (q0, false), (q36, false), (q35, false), (q34, false), (q33, false), (q32, false), (q31, false), (q30, false), (q28, false), (q26, false), (q14, false), (q13, false), (q23, false), (q15, false), (q16, true), (q3, false)]
theorem start297_yes : lawStart lawPc297 = true := by kernel_rfl
def lawPc315 : Pc := [(q6, true), (q4, false), (q5, true), (q0, false), (q18, true), (q11, true), (q2, false), (q39, true), (q16, false), (q3, false)]
theorem start315_yes : lawStart lawPc315 = true := by kernel_rfl
def lawPc333 : Pc := [(q6, true), (q4, false), (q5, true), (q0, false), (q18, true), (q12, true), (q11, false), (q2, false), (q39, true), (q16, false), (q3, false)]
theorem start333_yes : lawStart lawPc333 = true := by kernel_rfl
def lawPc351 : Pc := [(q6, true), (q4, false), (q5, true), (q0, false), (q18, true), (q40, true), (q41, true), (q12, false), (q11, false), (q2, false), (q39, true), (q16, false), (q3, false)]
theorem start351_yes : lawStart lawPc351 = true := by kernel_rfl
def lawPc369 : Pc := [(q8, false), (q5, false), (q0, false), (q18, false), (q40, true), (q41, true), (q12, false), (q11, false), (q2, false), (q39, true), (q16, false), (q3, false)]
theorem start369_yes : lawStart lawPc369 = true := by kernel_rfl
def lawPc387 : Pc := [(q9, true), (q7, false), (q8, true), (q5, false), (q0, false), (q46, true), (q44, false), (q40, false), (q41, true), (q12, false), (q11, false), (q2, false), (q39, true), (q16, false), (q3, false)]
theorem start387_yes : lawStart lawPc387 = true := by kernel_rfl
def lawPc405 : Pc := [(q7, true), (q8, true), (q5, false), (q0, false), (q18, false), (q47, true), (q46, false), (q44, false), (q40, false), (q41, true), (q12, false), (q11, false), (q2, false), (q39, true), (q16, false), (q3, false)]
theorem start405_yes : lawStart lawPc405 = true := by kernel_rfl
def lawPc423 : Pc := [(q49, false), (q45, false), (q43, false), (q42, true), (q10, false), (q9, false), (q7, false), (q8, true), (q5, false), (q0, false), (q48, true), (q47, false), (q46, false), (q44, false), (q40, false), (q41, true), (q12, false), (q11, false), (q2, false), (q39, true), (q16, false), (q3, false)]
theorem start423_yes : lawStart lawPc423 = true := by kernel_rfl
def lawPc441 : Pc := [(q7, true), (q8, true), (q5, false), (q0, false), (q13, true), (q41, false), (q12, false), (q11, false), (q2, false), (q39, true), (q16, false), (q3, false)]
theorem start441_yes : lawStart lawPc441 = true := by kernel_rfl
def lawPc459 : Pc := [(q6, true), (q4, false), (q5, true), (q0, false), (q14, false), (q13, false), (q41, false), (q12, false), (q11, false), (q2, false), (q39, true), (q16, false), (q3, false)]
theorem start459_yes : lawStart lawPc459 = true := by kernel_rfl
end
end Go.Proofs.Ythdhleaigphgeaa.Sx
