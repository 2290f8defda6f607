/- RvcApart: a part of its cases. -/
import Derived.Test.YthdhleaigphgeaaURvcApart
set_option linter.unusedVariables false
set_option linter.unusedSimpArgs false
namespace Go.Proofs.Ythdhleaigphgeaa.Sx
open Go
noncomputable section
set_option maxRecDepth 100000
def lawPc17 : Pc := [(q8, false), (q5, false), (q0, false), (q1, false), (q2, true), (q3, true)]
theorem start17_yes : lawStart lawPc17 = true := by kernel_rfl
def lawPc35 : Pc := [(q8, false), (q5, false), (q0, false), (q12, true), (q11, false), (q2, false), (q3, true)]
theorem start35_yes : lawStart lawPc35 = true := by kernel_rfl
def lawPc53 : Pc := [(q8, false), (q5, false), (q0, false), (q14, true), (q13, false), (q12, false), (q11, false), (q2, false), (q3, true)]
theorem start53_yes : lawStart lawPc53 = true := by kernel_rfl
def lawPc71 : Pc := [(q9, true), (q7, false), (q8, true), (q5, false), (q0, false), (q2, true), (q15, true), (q16, true), (q3, false)]
theorem start71_yes : lawStart lawPc71 = true := by kernel_rfl
def lawPc89 : Pc := [(q9, true), (q7, false), (q8, true), (q5, false), (q0, false), (q18, false), (q19, true), (q2, false), (q15, true), (q16, true), (q3, false)]
theorem start89_yes : lawStart lawPc89 = true := by kernel_rfl
def lawPc107 : Pc := [(q7, true), (q8, true), (q5, false), (q0, false), (q20, true), (q21, true), (q11, false), (q19, false), (q2, false), (q15, true), (q16, true), (q3, false)]
theorem start107_yes : lawStart lawPc107 = true := by kernel_rfl
def lawPc125 : Pc := [(q6, true), (q4, false), (q5, true), (q0, false), (q22, true), (q21, false), (q11, false), (q19, false), (q2, false), (q15, true), (q16, true), (q3, false)]
theorem start125_yes : lawStart lawPc125 = true := by kernel_rfl
def lawPc143 : Pc := [(q0, true), (q23, true), (q15, false), (q16, true), (q3, false)]
theorem start143_yes : lawStart lawPc143 = true := by kernel_rfl
def lawPc161 : Pc := [(q8, false), (q5, false), (q0, false), (q13, true), (q23, false), (q15, false), (q16, true), (q3, false)]
theorem start161_yes : lawStart lawPc161 = true := by kernel_rfl
def lawPc179 : Pc := [(q27, false), (q25, false), (q24, false), (q6, false), (q4, false), (q5, true), (q0, false), (q26, true), (q14, false), (q13, false), (q23, false), (q15, false), (q16, true), (q3, false)]
theorem start179_yes : lawStart lawPc179 = true := by kernel_rfl
def lawPc197 : Pc := [(q8, false), (q5, false), (q0, false), (q28, true), (q26, false), (q14, false), (q13, false), (q23, false), (q15, false), (q16, true), (q3, false)]
theorem start197_yes : lawStart lawPc197 = true := by kernel_rfl
def lawPc215 : Pc := [(q25, true), (q24, false), (q6, false), (q4, false), (q5, true), (q0, false), (q31, true), (q30, false), (q28, false), (q26, false), (q14, false), (q13, false), (q23, false), (q15, false), (q16, true), (q3, false)]
theorem start215_yes : lawStart lawPc215 = true := by kernel_rfl
def lawPc233 : Pc := [(q9, true), (q7, false), (q8, true), (q5, false), (q0, false), (q32, true), (q31, false), (q30, false), (q28, false), (q26, false), (q14, false), (q13, false), (q23, false), (q15, false), (q16, true), (q3, false)]
theorem start233_yes : lawStart lawPc233 = true := by kernel_rfl
def lawPc251 : Pc := [(q4, true), (q5, true), (q0, false), (q34, true), (q33, false), (q32, false), (q31, false), (q30, false), (q28, false), (q26, false), (q14, false), (q13, false), (q23, false), (q15, false), (q16, true), (q3, false)]
theorem start251_yes : lawStart lawPc251 = true := by kernel_rfl
def lawPc269 : Pc := [(q29, true), (q27, false), (q25, false), (q24, false), (q6, false), (q4, false), (q5, true), (q0, false), (q35, true), (q34, false), (q33, false), (q32, false), (q31, false), (q30, false), (q28, false), (q26, false), (q14, false), (q13, false), (q23, false), (q15, false), (q16, true), (q3, false)]
theorem start269_yes : lawStart lawPc269 = true := by kernel_rfl
def lawPc287 : Pc := [(q10, false), (q9, false), (q7, false), (q8, true), (q5, false), (q0, false), (q36, true), (q35, false), (q34, false), (q33, false), (q32, false), (q31, false), (q30, false), (q28, false), (q26, false), (q14, false), (q13, false), (q23, false), (q15, false), (q16, true), (q3, false)]
theorem start287_yes : lawStart lawPc287 = true := by kernel_rfl
def lawPc305 : Pc := [(q4, true), (q5, true), (q0, false), (q2, true), (q39, true), (q16, false), (q3, false)]
theorem start305_yes : lawStart lawPc305 = true := by kernel_rfl
def lawPc323 : Pc := [(q4, true), (q5, true), (q0, false), (q18, false), (q11, true), (q2, false), (q39, true), (q16, false), (q3, false)]
theorem start323_yes : lawStart lawPc323 = true := by kernel_rfl
def lawPc341 : Pc := [(q4, true), (q5, true), (q0, false), (q18, false), (q12, true), (q11, false), (q2, false), (q39, true), (q16, false), (q3, false)]
theorem start341_yes : lawStart lawPc341 = true := by kernel_rfl
def lawPc359 : Pc := [(q0, true), (q18, false), (q40, true), (q41, true), (q12, false), (q11, false), (q2, false), (q39, true), (q16, false), (q3, false)]
theorem start359_yes : lawStart lawPc359 = true := by kernel_rfl
def lawPc377 : Pc := [(q43, true), (q42, true), (q10, false), (q9, false), (q7, false), (q8, true), (q5, false), (q0, false), (q44, true), (q40, false), (q41, true), (q12, false), (q11, false), (q2, false), (q39, true), (q16, false), (q3, false)]
theorem start377_yes : lawStart lawPc377 = true := by kernel_rfl
def lawPc395 : Pc := [(q7, true), (q8, true), (q5, false), (q0, false), (q18, true), (q47, true), (q46, false), (q44, false), (q40, false), (q41, true), (q12, false), (q11, false), (q2, false), (q39, true), (q16, false), (q3, false)]
theorem start395_yes : lawStart lawPc395 = true := by kernel_rfl
def lawPc413 : Pc := [(q0, true), (q48, true), (q47, false), (q46, false), (q44, false), (q40, false), (q41, true), (q12, false), (q11, false), (q2, false), (q39, true), (q16, false), (q3, false)]
theorem start413_yes : lawStart lawPc413 = true := by kernel_rfl
def lawPc431 : Pc := [(q9, true), (q7, false), (q8, true), (q5, false), (q0, false), (q48, false), (q47, false), (q46, false), (q44, false), (q40, false), (q41, true), (q12, false), (q11, false), (q2, false), (q39, true), (q16, false), (q3, false)]
theorem start431_yes : lawStart lawPc431 = true := by kernel_rfl
def lawPc449 : Pc := [(q6, true), (q4, false), (q5, true), (q0, false), (q14, true), (q13, false), (q41, false), (q12, false), (q11, false), (q2, false), (q39, true), (q16, false), (q3, false)]
theorem start449_yes : lawStart lawPc449 = true := by kernel_rfl
def lawPc467 : Pc := [(q8, false), (q5, false), (q0, false), (q14, false), (q13, false), (q41, false), (q12, false), (q11, false), (q2, false), (q39, true), (q16, false), (q3, false)]
theorem start467_yes : lawStart lawPc467 = true := by kernel_rfl
end
end Go.Proofs.Ythdhleaigphgeaa.Sx
