/- RvcApart: a part of its cases. -/
import Derived.Test.YthdhleaigphgeaaURvcApart
set_option linter.unusedVariables false
set_option linter.unusedSimpArgs false
namespace Go.Proofs.Ythdhleaigphgeaa.Sx
open Go
noncomputable section
set_option maxRecDepth 100000
def lawPc8 : Pc := [(q8, false), (q5, false), (q0, false), (q1, true), (q2, true), (q3, true)]
theorem start8_yes : lawStart lawPc8 = true := by kernel_rfl
def lawPc26 : Pc := [(q8, false), (q5, false), (q0, false), (q11, true), (q2, false), (q3, true)]
theorem start26_yes : lawStart lawPc26 = true := by kernel_rfl
def lawPc44 : Pc := [(q8, false), (q5, false), (q0, false), (q13, true), (q12, false), (q11, false), (q2, false), (q3, true)]
theorem start44_yes : lawStart lawPc44 = true := by kernel_rfl
def lawPc62 : Pc := [(q10, false), (q9, false), (q7, false), (q8, true), (q5, false), (q0, false), (q14, false), (q13, false), (q12, false), (q11, false), (q2, false), (q3, true)]
theorem start62_yes : lawStart lawPc62 = true := by kernel_rfl
def lawPc80 : Pc := [(q9, true), (q7, false), (q8, true), (q5, false), (q0, false), (q18, true), (q19, true), (q2, false), (q15, true), (q16, true), (q3, false)]
theorem start80_yes : lawStart lawPc80 = true := by kernel_rfl
def lawPc98 : Pc := [(q7, true), (q8, true), (q5, false), (q0, false), (q11, true), (q19, false), (q2, false), (q15, true), (q16, true), (q3, false)]
theorem start98_yes : lawStart lawPc98 = true := by kernel_rfl
def lawPc116 : Pc := [(q6, true), (q4, false), (q5, true), (q0, false), (q20, false), (q21, true), (q11, false), (q19, false), (q2, false), (q15, true), (q16, true), (q3, false)]
theorem start116_yes : lawStart lawPc116 = true := by kernel_rfl
def lawPc134 : Pc := [(q17, true), (q7, false), (q4, true), (q5, true), (q0, false), (q22, false), (q21, false), (q11, false), (q19, false), (q2, false), (q15, true), (q16, true), (q3, false)]
theorem start134_yes : lawStart lawPc134 = true := by kernel_rfl
def lawPc152 : Pc := [(q0, true), (q13, true), (q23, false), (q15, false), (q16, true), (q3, false)]
theorem start152_yes : lawStart lawPc152 = true := by kernel_rfl
def lawPc170 : Pc := [(q10, true), (q9, false), (q7, false), (q8, true), (q5, false), (q0, false), (q14, true), (q13, false), (q23, false), (q15, false), (q16, true), (q3, false)]
theorem start170_yes : lawStart lawPc170 = true := by kernel_rfl
def lawPc188 : Pc := [(q24, true), (q6, false), (q4, false), (q5, true), (q0, false), (q28, true), (q26, false), (q14, false), (q13, false), (q23, false), (q15, false), (q16, true), (q3, false)]
theorem start188_yes : lawStart lawPc188 = true := by kernel_rfl
def lawPc206 : Pc := [(q7, true), (q8, true), (q5, false), (q0, false), (q30, true), (q28, false), (q26, false), (q14, false), (q13, false), (q23, false), (q15, false), (q16, true), (q3, false)]
theorem start206_yes : lawStart lawPc206 = true := by kernel_rfl
def lawPc224 : Pc := [(q0, true), (q32, true), (q31, false), (q30, false), (q28, false), (q26, false), (q14, false), (q13, false), (q23, false), (q15, false), (q16, true), (q3, false)]
theorem start224_yes : lawStart lawPc224 = true := by kernel_rfl
def lawPc242 : Pc := [(q27, true), (q25, false), (q24, false), (q6, false), (q4, false), (q5, true), (q0, false), (q33, true), (q32, false), (q31, false), (q30, false), (q28, false), (q26, false), (q14, false), (q13, false), (q23, false), (q15, false), (q16, true), (q3, false)]
theorem start242_yes : lawStart lawPc242 = true := by kernel_rfl
def lawPc260 : Pc := [(q10, true), (q9, false), (q7, false), (q8, true), (q5, false), (q0, false), (q34, true), (q33, false), (q32, false), (q31, false), (q30, false), (q28, false), (q26, false), (q14, false), (q13, false), (q23, false), (q15, false), (q16, true), (q3, false)]
theorem start260_yes : lawStart lawPc260 = true := by kernel_rfl
def lawPc278 : Pc := [(q6, true), (q4, false), (q5, true), (q0, false), (q36, true), (q35, false), (q34, false), (q33, false), (q32, false), (q31, false), (q30, false), (q28, false), (q26, false), (q14, false), (q13, false), (q23, false), (q15, false), (q16, true), (q3, false)]
theorem start278_yes : lawStart lawPc278 = true := by kernel_rfl
def lawPc296 : Pc := [(q37, true), (q29, false), (q27, false), (q25, false), (q24, false), (q6, false), (q4, false), (q5, true), (q0, false), (q36, false), (q35, false), (q34, false), (q33, false), (q32, false), (q31, false), (q30, false), (q28, false), (q26, false), (q14, false), (q13, false), (q23, false), (q15, false), (q16, true), (q3, false)]
theorem start296_yes : lawStart lawPc296 = true := by kernel_rfl
def lawPc314 : Pc := [(q4, true), (q5, true), (q0, false), (q18, true), (q11, true), (q2, false), (q39, true), (q16, false), (q3, false)]
theorem start314_yes : lawStart lawPc314 = true := by kernel_rfl
def lawPc332 : Pc := [(q4, true), (q5, true), (q0, false), (q18, true), (q12, true), (q11, false), (q2, false), (q39, true), (q16, false), (q3, false)]
theorem start332_yes : lawStart lawPc332 = true := by kernel_rfl
def lawPc350 : Pc := [(q4, true), (q5, true), (q0, false), (q18, true), (q40, true), (q41, true), (q12, false), (q11, false), (q2, false), (q39, true), (q16, false), (q3, false)]
theorem start350_yes : lawStart lawPc350 = true := by kernel_rfl
def lawPc368 : Pc := [(q42, false), (q10, false), (q9, false), (q7, false), (q8, true), (q5, false), (q0, false), (q18, false), (q40, true), (q41, true), (q12, false), (q11, false), (q2, false), (q39, true), (q16, false), (q3, false)]
theorem start368_yes : lawStart lawPc368 = true := by kernel_rfl
def lawPc386 : Pc := [(q7, true), (q8, true), (q5, false), (q0, false), (q46, true), (q44, false), (q40, false), (q41, true), (q12, false), (q11, false), (q2, false), (q39, true), (q16, false), (q3, false)]
theorem start386_yes : lawStart lawPc386 = true := by kernel_rfl
def lawPc404 : Pc := [(q6, false), (q4, false), (q5, true), (q0, false), (q18, false), (q47, true), (q46, false), (q44, false), (q40, false), (q41, true), (q12, false), (q11, false), (q2, false), (q39, true), (q16, false), (q3, false)]
theorem start404_yes : lawStart lawPc404 = true := by kernel_rfl
def lawPc422 : Pc := [(q49, true), (q45, false), (q43, false), (q42, true), (q10, false), (q9, false), (q7, false), (q8, true), (q5, false), (q0, false), (q48, true), (q47, false), (q46, false), (q44, false), (q40, false), (q41, true), (q12, false), (q11, false), (q2, false), (q39, true), (q16, false), (q3, false)]
theorem start422_yes : lawStart lawPc422 = true := by kernel_rfl
def lawPc440 : Pc := [(q6, false), (q4, false), (q5, true), (q0, false), (q13, true), (q41, false), (q12, false), (q11, false), (q2, false), (q39, true), (q16, false), (q3, false)]
theorem start440_yes : lawStart lawPc440 = true := by kernel_rfl
def lawPc458 : Pc := [(q4, true), (q5, true), (q0, false), (q14, false), (q13, false), (q41, false), (q12, false), (q11, false), (q2, false), (q39, true), (q16, false), (q3, false)]
theorem start458_yes : lawStart lawPc458 = true := by kernel_rfl
def lawPc476 : Pc := [(q8, false), (q5, false), (q0, false), (q39, false), (q16, false), (q3, false)]
theorem start476_yes : lawStart lawPc476 = true := by kernel_rfl
end
end Go.Proofs.Ythdhleaigphgeaa.Sx
