/- RvcApart: a part of its cases. -/
import Derived.Test.YthdhleaigphgeaaURvcApart
set_option linter.unusedVariables false
set_option linter.unusedSimpArgs false
namespace Go.Proofs.Ythdhleaigphgeaa.Sx
open Go
noncomputable section
set_option maxRecDepth 100000
def lawPc6 : Pc := [(q10, true), (q9, false), (q7, false), (q8, true), (q5, false), (q0, false), (q1, true), (q2, true), (q3, true)]
theorem start6_yes : lawStart lawPc6 = true := by kernel_rfl
def lawPc24 : Pc := [(q10, true), (q9, false), (q7, false), (q8, true), (q5, false), (q0, false), (q11, true), (q2, false), (q3, true)]
theorem start24_yes : lawStart lawPc24 = true := by kernel_rfl
def lawPc42 : Pc := [(q10, true), (q9, false), (q7, false), (q8, true), (q5, false), (q0, false), (q13, true), (q12, false), (q11, false), (q2, false), (q3, true)]
theorem start42_yes : lawStart lawPc42 = true := by kernel_rfl
def lawPc60 : Pc := [(q9, true), (q7, false), (q8, true), (q5, false), (q0, false), (q14, false), (q13, false), (q12, false), (q11, false), (q2, false), (q3, true)]
theorem start60_yes : lawStart lawPc60 = true := by kernel_rfl
def lawPc78 : Pc := [(q6, false), (q4, false), (q5, true), (q0, false), (q18, true), (q19, true), (q2, false), (q15, true), (q16, true), (q3, false)]
theorem start78_yes : lawStart lawPc78 = true := by kernel_rfl
def lawPc96 : Pc := [(q6, true), (q4, false), (q5, true), (q0, false), (q11, true), (q19, false), (q2, false), (q15, true), (q16, true), (q3, false)]
theorem start96_yes : lawStart lawPc96 = true := by kernel_rfl
def lawPc114 : Pc := [(q17, true), (q7, false), (q4, true), (q5, true), (q0, false), (q20, false), (q21, true), (q11, false), (q19, false), (q2, false), (q15, true), (q16, true), (q3, false)]
theorem start114_yes : lawStart lawPc114 = true := by kernel_rfl
def lawPc132 : Pc := [(q0, true), (q22, false), (q21, false), (q11, false), (q19, false), (q2, false), (q15, true), (q16, true), (q3, false)]
theorem start132_yes : lawStart lawPc132 = true := by kernel_rfl
def lawPc150 : Pc := [(q10, false), (q9, false), (q7, false), (q8, true), (q5, false), (q0, false), (q23, true), (q15, false), (q16, true), (q3, false)]
theorem start150_yes : lawStart lawPc150 = true := by kernel_rfl
def lawPc168 : Pc := [(q7, true), (q8, true), (q5, false), (q0, false), (q14, true), (q13, false), (q23, false), (q15, false), (q16, true), (q3, false)]
theorem start168_yes : lawStart lawPc168 = true := by kernel_rfl
def lawPc186 : Pc := [(q4, true), (q5, true), (q0, false), (q28, true), (q26, false), (q14, false), (q13, false), (q23, false), (q15, false), (q16, true), (q3, false)]
theorem start186_yes : lawStart lawPc186 = true := by kernel_rfl
def lawPc204 : Pc := [(q29, true), (q27, false), (q25, false), (q24, false), (q6, false), (q4, false), (q5, true), (q0, false), (q30, true), (q28, false), (q26, false), (q14, false), (q13, false), (q23, false), (q15, false), (q16, true), (q3, false)]
theorem start204_yes : lawStart lawPc204 = true := by kernel_rfl
def lawPc222 : Pc := [(q10, false), (q9, false), (q7, false), (q8, true), (q5, false), (q0, false), (q31, true), (q30, false), (q28, false), (q26, false), (q14, false), (q13, false), (q23, false), (q15, false), (q16, true), (q3, false)]
theorem start222_yes : lawStart lawPc222 = true := by kernel_rfl
def lawPc240 : Pc := [(q24, true), (q6, false), (q4, false), (q5, true), (q0, false), (q33, true), (q32, false), (q31, false), (q30, false), (q28, false), (q26, false), (q14, false), (q13, false), (q23, false), (q15, false), (q16, true), (q3, false)]
theorem start240_yes : lawStart lawPc240 = true := by kernel_rfl
def lawPc258 : Pc := [(q7, true), (q8, true), (q5, false), (q0, false), (q34, true), (q33, false), (q32, false), (q31, false), (q30, false), (q28, false), (q26, false), (q14, false), (q13, false), (q23, false), (q15, false), (q16, true), (q3, false)]
theorem start258_yes : lawStart lawPc258 = true := by kernel_rfl
def lawPc276 : Pc := [(q0, true), (q36, true), (q35, false), (q34, false), (q33, false), (q32, false), (q31, false), (q30, false), (q28, false), (q26, false), (q14, false), (q13, false), (q23, false), (q15, false), (q16, true), (q3, false)]
theorem start276_yes : lawStart lawPc276 = true := by kernel_rfl
def lawPc294 : Pc := [(q27, true), (q25, false), (q24, false), (q6, false), (q4, false), (q5, true), (q0, false), (q36, false), (q35, false), (q34, false), (q33, false), (q32, false), (q31, false), (q30, false), (q28, false), (q26, false), (q14, false), (q13, false), (q23, false), (q15, false), (q16, true), (q3, false)]
theorem start294_yes : lawStart lawPc294 = true := by kernel_rfl
def lawPc312 : Pc := [(q8, false), (q5, false), (q0, false), (q2, true), (q39, true), (q16, false), (q3, false)]
theorem start312_yes : lawStart lawPc312 = true := by kernel_rfl
def lawPc330 : Pc := [(q8, false), (q5, false), (q0, false), (q18, false), (q11, true), (q2, false), (q39, true), (q16, false), (q3, false)]
theorem start330_yes : lawStart lawPc330 = true := by kernel_rfl
def lawPc348 : Pc := [(q8, false), (q5, false), (q0, false), (q18, false), (q12, true), (q11, false), (q2, false), (q39, true), (q16, false), (q3, false)]
theorem start348_yes : lawStart lawPc348 = true := by kernel_rfl
def lawPc366 : Pc := [(q43, true), (q42, true), (q10, false), (q9, false), (q7, false), (q8, true), (q5, false), (q0, false), (q18, false), (q40, true), (q41, true), (q12, false), (q11, false), (q2, false), (q39, true), (q16, false), (q3, false)]
theorem start366_yes : lawStart lawPc366 = true := by kernel_rfl
def lawPc384 : Pc := [(q6, true), (q4, false), (q5, true), (q0, false), (q46, true), (q44, false), (q40, false), (q41, true), (q12, false), (q11, false), (q2, false), (q39, true), (q16, false), (q3, false)]
theorem start384_yes : lawStart lawPc384 = true := by kernel_rfl
def lawPc402 : Pc := [(q4, true), (q5, true), (q0, false), (q18, false), (q47, true), (q46, false), (q44, false), (q40, false), (q41, true), (q12, false), (q11, false), (q2, false), (q39, true), (q16, false), (q3, false)]
theorem start402_yes : lawStart lawPc402 = true := by kernel_rfl
def lawPc420 : Pc := [(q43, true), (q42, true), (q10, false), (q9, false), (q7, false), (q8, true), (q5, false), (q0, false), (q48, true), (q47, false), (q46, false), (q44, false), (q40, false), (q41, true), (q12, false), (q11, false), (q2, false), (q39, true), (q16, false), (q3, false)]
theorem start420_yes : lawStart lawPc420 = true := by kernel_rfl
def lawPc438 : Pc := [(q4, true), (q5, true), (q0, false), (q13, true), (q41, false), (q12, false), (q11, false), (q2, false), (q39, true), (q16, false), (q3, false)]
theorem start438_yes : lawStart lawPc438 = true := by kernel_rfl
def lawPc456 : Pc := [(q8, false), (q5, false), (q0, false), (q14, true), (q13, false), (q41, false), (q12, false), (q11, false), (q2, false), (q39, true), (q16, false), (q3, false)]
theorem start456_yes : lawStart lawPc456 = true := by kernel_rfl
def lawPc474 : Pc := [(q10, true), (q9, false), (q7, false), (q8, true), (q5, false), (q0, false), (q39, false), (q16, false), (q3, false)]
theorem start474_yes : lawStart lawPc474 = true := by kernel_rfl
end
end Go.Proofs.Ythdhleaigphgeaa.Sx
