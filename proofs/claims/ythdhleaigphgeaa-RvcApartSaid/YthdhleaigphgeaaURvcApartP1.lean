/- RvcApart: a part of its cases. -/
import Derived.Test.YthdhleaigphgeaaURvcApart
set_option linter.unusedVariables false
set_option linter.unusedSimpArgs false
namespace Go.Proofs.Ythdhleaigphgeaa.Sx
open Go
noncomputable section
set_option maxRecDepth 100000
def lawPc1 : Pc := [(q4, true), (q5, true), (q0, false), (q1, true), (q2, true), (q3, true)]
theorem start1_yes : lawStart lawPc1 = true := by kernel_rfl
def lawPc19 : Pc := [(q4, true), (q5, true), (q0, false), (q11, true), (q2, false), (q3, true)]
theorem start19_yes : lawStart lawPc19 = true := by kernel_rfl
def lawPc37 : Pc := [(q4, true), (q5, true), (q0, false), (q13, true), (q12, false), (q11, false), (q2, false), (q3, true)]
theorem start37_yes : lawStart lawPc37 = true := by kernel_rfl
def lawPc55 : Pc := [(q7, false), (q0, true), (q14, false), (q13, false), (q12, false), (q11, false), (q2, false), (q3, true)]
theorem start55_yes : lawStart lawPc55 = true := by kernel_rfl
def lawPc73 : Pc := [(q10, false), (q9, false), (q7, false), (q8, true), (q5, false), (q0, false), (q2, true), (q15, true), (q16, true), (q3, false)]
theorem start73_yes : lawStart lawPc73 = true := by kernel_rfl
def lawPc91 : Pc := [(q10, false), (q9, false), (q7, false), (q8, true), (q5, false), (q0, false), (q18, false), (q19, true), (q2, false), (q15, true), (q16, true), (q3, false)]
theorem start91_yes : lawStart lawPc91 = true := by kernel_rfl
def lawPc109 : Pc := [(q10, true), (q9, false), (q7, false), (q8, true), (q5, false), (q0, false), (q20, true), (q21, true), (q11, false), (q19, false), (q2, false), (q15, true), (q16, true), (q3, false)]
theorem start109_yes : lawStart lawPc109 = true := by kernel_rfl
def lawPc127 : Pc := [(q7, true), (q8, true), (q5, false), (q0, false), (q22, true), (q21, false), (q11, false), (q19, false), (q2, false), (q15, true), (q16, true), (q3, false)]
theorem start127_yes : lawStart lawPc127 = true := by kernel_rfl
def lawPc145 : Pc := [(q6, true), (q4, false), (q5, true), (q0, false), (q23, true), (q15, false), (q16, true), (q3, false)]
theorem start145_yes : lawStart lawPc145 = true := by kernel_rfl
def lawPc163 : Pc := [(q4, true), (q5, true), (q0, false), (q14, true), (q13, false), (q23, false), (q15, false), (q16, true), (q3, false)]
theorem start163_yes : lawStart lawPc163 = true := by kernel_rfl
def lawPc181 : Pc := [(q9, true), (q7, false), (q8, true), (q5, false), (q0, false), (q26, true), (q14, false), (q13, false), (q23, false), (q15, false), (q16, true), (q3, false)]
theorem start181_yes : lawStart lawPc181 = true := by kernel_rfl
def lawPc199 : Pc := [(q4, true), (q5, true), (q0, false), (q30, true), (q28, false), (q26, false), (q14, false), (q13, false), (q23, false), (q15, false), (q16, true), (q3, false)]
theorem start199_yes : lawStart lawPc199 = true := by kernel_rfl
def lawPc217 : Pc := [(q29, true), (q27, false), (q25, false), (q24, false), (q6, false), (q4, false), (q5, true), (q0, false), (q31, true), (q30, false), (q28, false), (q26, false), (q14, false), (q13, false), (q23, false), (q15, false), (q16, true), (q3, false)]
theorem start217_yes : lawStart lawPc217 = true := by kernel_rfl
def lawPc235 : Pc := [(q10, false), (q9, false), (q7, false), (q8, true), (q5, false), (q0, false), (q32, true), (q31, false), (q30, false), (q28, false), (q26, false), (q14, false), (q13, false), (q23, false), (q15, false), (q16, true), (q3, false)]
theorem start235_yes : lawStart lawPc235 = true := by kernel_rfl
def lawPc253 : Pc := [(q24, true), (q6, false), (q4, false), (q5, true), (q0, false), (q34, true), (q33, false), (q32, false), (q31, false), (q30, false), (q28, false), (q26, false), (q14, false), (q13, false), (q23, false), (q15, false), (q16, true), (q3, false)]
theorem start253_yes : lawStart lawPc253 = true := by kernel_rfl
def lawPc271 : Pc := [(q7, true), (q8, true), (q5, false), (q0, false), (q35, true), (q34, false), (q33, false), (q32, false), (q31, false), (q30, false), (q28, false), (q26, false), (q14, false), (q13, false), (q23, false), (q15, false), (q16, true), (q3, false)]
theorem start271_yes : lawStart lawPc271 = true := by kernel_rfl
def lawPc289 : Pc := [(q0, true), (q36, false), (q35, false), (q34, false), (q33, false), (q32, false), (q31, false), (q30, false), (q28, false), (q26, false), (q14, false), (q13, false), (q23, false), (q15, false), (q16, true), (q3, false)]
theorem start289_yes : lawStart lawPc289 = true := by kernel_rfl
def lawPc307 : Pc := [(q6, false), (q4, false), (q5, true), (q0, false), (q2, true), (q39, true), (q16, false), (q3, false)]
theorem start307_yes : lawStart lawPc307 = true := by kernel_rfl
def lawPc325 : Pc := [(q6, false), (q4, false), (q5, true), (q0, false), (q18, false), (q11, true), (q2, false), (q39, true), (q16, false), (q3, false)]
theorem start325_yes : lawStart lawPc325 = true := by kernel_rfl
def lawPc343 : Pc := [(q6, false), (q4, false), (q5, true), (q0, false), (q18, false), (q12, true), (q11, false), (q2, false), (q39, true), (q16, false), (q3, false)]
theorem start343_yes : lawStart lawPc343 = true := by kernel_rfl
def lawPc361 : Pc := [(q6, true), (q4, false), (q5, true), (q0, false), (q18, false), (q40, true), (q41, true), (q12, false), (q11, false), (q2, false), (q39, true), (q16, false), (q3, false)]
theorem start361_yes : lawStart lawPc361 = true := by kernel_rfl
def lawPc379 : Pc := [(q45, false), (q43, false), (q42, true), (q10, false), (q9, false), (q7, false), (q8, true), (q5, false), (q0, false), (q44, true), (q40, false), (q41, true), (q12, false), (q11, false), (q2, false), (q39, true), (q16, false), (q3, false)]
theorem start379_yes : lawStart lawPc379 = true := by kernel_rfl
def lawPc397 : Pc := [(q10, true), (q9, false), (q7, false), (q8, true), (q5, false), (q0, false), (q18, true), (q47, true), (q46, false), (q44, false), (q40, false), (q41, true), (q12, false), (q11, false), (q2, false), (q39, true), (q16, false), (q3, false)]
theorem start397_yes : lawStart lawPc397 = true := by kernel_rfl
def lawPc415 : Pc := [(q6, true), (q4, false), (q5, true), (q0, false), (q48, true), (q47, false), (q46, false), (q44, false), (q40, false), (q41, true), (q12, false), (q11, false), (q2, false), (q39, true), (q16, false), (q3, false)]
theorem start415_yes : lawStart lawPc415 = true := by kernel_rfl
def lawPc433 : Pc := [(q43, true), (q42, true), (q10, false), (q9, false), (q7, false), (q8, true), (q5, false), (q0, false), (q48, false), (q47, false), (q46, false), (q44, false), (q40, false), (q41, true), (q12, false), (q11, false), (q2, false), (q39, true), (q16, false), (q3, false)]
theorem start433_yes : lawStart lawPc433 = true := by kernel_rfl
def lawPc451 : Pc := [(q7, true), (q8, true), (q5, false), (q0, false), (q14, true), (q13, false), (q41, false), (q12, false), (q11, false), (q2, false), (q39, true), (q16, false), (q3, false)]
theorem start451_yes : lawStart lawPc451 = true := by kernel_rfl
def lawPc469 : Pc := [(q4, true), (q5, true), (q0, false), (q39, false), (q16, false), (q3, false)]
theorem start469_yes : lawStart lawPc469 = true := by kernel_rfl
end
end Go.Proofs.Ythdhleaigphgeaa.Sx
