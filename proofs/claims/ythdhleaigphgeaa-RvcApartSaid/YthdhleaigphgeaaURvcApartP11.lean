/- RvcApart: a part of its cases. -/
import Derived.Test.YthdhleaigphgeaaURvcApart
set_option linter.unusedVariables false
set_option linter.unusedSimpArgs false
namespace Go.Proofs.Ythdhleaigphgeaa.Sx
open Go
noncomputable section
set_option maxRecDepth 100000
def lawPc11 : Pc := [(q6, true), (q4, false), (q5, true), (q0, false), (q1, false), (q2, true), (q3, true)]
theorem start11_yes : lawStart lawPc11 = true := by kernel_rfl
def lawPc29 : Pc := [(q6, true), (q4, false), (q5, true), (q0, false), (q12, true), (q11, false), (q2, false), (q3, true)]
theorem start29_yes : lawStart lawPc29 = true := by kernel_rfl
def lawPc47 : Pc := [(q6, true), (q4, false), (q5, true), (q0, false), (q14, true), (q13, false), (q12, false), (q11, false), (q2, false), (q3, true)]
theorem start47_yes : lawStart lawPc47 = true := by kernel_rfl
def lawPc65 : Pc := [(q7, true), (q4, true), (q5, true), (q0, false), (q2, true), (q15, true), (q16, true), (q3, false)]
theorem start65_yes : lawStart lawPc65 = true := by kernel_rfl
def lawPc83 : Pc := [(q8, false), (q5, false), (q0, false), (q18, true), (q19, true), (q2, false), (q15, true), (q16, true), (q3, false)]
theorem start83_yes : lawStart lawPc83 = true := by kernel_rfl
def lawPc101 : Pc := [(q10, false), (q9, false), (q7, false), (q8, true), (q5, false), (q0, false), (q11, true), (q19, false), (q2, false), (q15, true), (q16, true), (q3, false)]
theorem start101_yes : lawStart lawPc101 = true := by kernel_rfl
def lawPc119 : Pc := [(q9, true), (q7, false), (q8, true), (q5, false), (q0, false), (q20, false), (q21, true), (q11, false), (q19, false), (q2, false), (q15, true), (q16, true), (q3, false)]
theorem start119_yes : lawStart lawPc119 = true := by kernel_rfl
def lawPc137 : Pc := [(q6, false), (q4, false), (q5, true), (q0, false), (q22, false), (q21, false), (q11, false), (q19, false), (q2, false), (q15, true), (q16, true), (q3, false)]
theorem start137_yes : lawStart lawPc137 = true := by kernel_rfl
def lawPc155 : Pc := [(q24, true), (q6, false), (q4, false), (q5, true), (q0, false), (q13, true), (q23, false), (q15, false), (q16, true), (q3, false)]
theorem start155_yes : lawStart lawPc155 = true := by kernel_rfl
def lawPc173 : Pc := [(q0, true), (q26, true), (q14, false), (q13, false), (q23, false), (q15, false), (q16, true), (q3, false)]
theorem start173_yes : lawStart lawPc173 = true := by kernel_rfl
def lawPc191 : Pc := [(q29, true), (q27, false), (q25, false), (q24, false), (q6, false), (q4, false), (q5, true), (q0, false), (q28, true), (q26, false), (q14, false), (q13, false), (q23, false), (q15, false), (q16, true), (q3, false)]
theorem start191_yes : lawStart lawPc191 = true := by kernel_rfl
def lawPc209 : Pc := [(q10, false), (q9, false), (q7, false), (q8, true), (q5, false), (q0, false), (q30, true), (q28, false), (q26, false), (q14, false), (q13, false), (q23, false), (q15, false), (q16, true), (q3, false)]
theorem start209_yes : lawStart lawPc209 = true := by kernel_rfl
def lawPc227 : Pc := [(q24, true), (q6, false), (q4, false), (q5, true), (q0, false), (q32, true), (q31, false), (q30, false), (q28, false), (q26, false), (q14, false), (q13, false), (q23, false), (q15, false), (q16, true), (q3, false)]
theorem start227_yes : lawStart lawPc227 = true := by kernel_rfl
def lawPc245 : Pc := [(q7, true), (q8, true), (q5, false), (q0, false), (q33, true), (q32, false), (q31, false), (q30, false), (q28, false), (q26, false), (q14, false), (q13, false), (q23, false), (q15, false), (q16, true), (q3, false)]
theorem start245_yes : lawStart lawPc245 = true := by kernel_rfl
def lawPc263 : Pc := [(q0, true), (q35, true), (q34, false), (q33, false), (q32, false), (q31, false), (q30, false), (q28, false), (q26, false), (q14, false), (q13, false), (q23, false), (q15, false), (q16, true), (q3, false)]
theorem start263_yes : lawStart lawPc263 = true := by kernel_rfl
def lawPc281 : Pc := [(q27, true), (q25, false), (q24, false), (q6, false), (q4, false), (q5, true), (q0, false), (q36, true), (q35, false), (q34, false), (q33, false), (q32, false), (q31, false), (q30, false), (q28, false), (q26, false), (q14, false), (q13, false), (q23, false), (q15, false), (q16, true), (q3, false)]
theorem start281_yes : lawStart lawPc281 = true := by kernel_rfl
def lawPc299 : Pc := [(q7, true), (q8, true), (q5, false), (q0, false), (q36, false), (q35, false), (q34, false), (q33, false), (q32, false), (q31, false), (q30, false), (q28, false), (q26, false), (q14, false), (q13, false), (q23, false), (q15, false), (q16, true), (q3, false)]
theorem start299_yes : lawStart lawPc299 = true := by kernel_rfl
def lawPc317 : Pc := [(q7, true), (q8, true), (q5, false), (q0, false), (q18, true), (q11, true), (q2, false), (q39, true), (q16, false), (q3, false)]
theorem start317_yes : lawStart lawPc317 = true := by kernel_rfl
def lawPc335 : Pc := [(q7, true), (q8, true), (q5, false), (q0, false), (q18, true), (q12, true), (q11, false), (q2, false), (q39, true), (q16, false), (q3, false)]
theorem start335_yes : lawStart lawPc335 = true := by kernel_rfl
def lawPc353 : Pc := [(q7, true), (q8, true), (q5, false), (q0, false), (q18, true), (q40, true), (q41, true), (q12, false), (q11, false), (q2, false), (q39, true), (q16, false), (q3, false)]
theorem start353_yes : lawStart lawPc353 = true := by kernel_rfl
def lawPc371 : Pc := [(q4, true), (q5, true), (q0, false), (q44, true), (q40, false), (q41, true), (q12, false), (q11, false), (q2, false), (q39, true), (q16, false), (q3, false)]
theorem start371_yes : lawStart lawPc371 = true := by kernel_rfl
def lawPc389 : Pc := [(q10, false), (q9, false), (q7, false), (q8, true), (q5, false), (q0, false), (q46, true), (q44, false), (q40, false), (q41, true), (q12, false), (q11, false), (q2, false), (q39, true), (q16, false), (q3, false)]
theorem start389_yes : lawStart lawPc389 = true := by kernel_rfl
def lawPc407 : Pc := [(q10, true), (q9, false), (q7, false), (q8, true), (q5, false), (q0, false), (q18, false), (q47, true), (q46, false), (q44, false), (q40, false), (q41, true), (q12, false), (q11, false), (q2, false), (q39, true), (q16, false), (q3, false)]
theorem start407_yes : lawStart lawPc407 = true := by kernel_rfl
def lawPc425 : Pc := [(q8, false), (q5, false), (q0, false), (q48, true), (q47, false), (q46, false), (q44, false), (q40, false), (q41, true), (q12, false), (q11, false), (q2, false), (q39, true), (q16, false), (q3, false)]
theorem start425_yes : lawStart lawPc425 = true := by kernel_rfl
def lawPc443 : Pc := [(q10, true), (q9, false), (q7, false), (q8, true), (q5, false), (q0, false), (q13, true), (q41, false), (q12, false), (q11, false), (q2, false), (q39, true), (q16, false), (q3, false)]
theorem start443_yes : lawStart lawPc443 = true := by kernel_rfl
def lawPc461 : Pc := [(q7, true), (q8, true), (q5, false), (q0, false), (q14, false), (q13, false), (q41, false), (q12, false), (q11, false), (q2, false), (q39, true), (q16, false), (q3, false)]
theorem start461_yes : lawStart lawPc461 = true := by kernel_rfl
end
end Go.Proofs.Ythdhleaigphgeaa.Sx
