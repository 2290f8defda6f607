/- RvcApart: a part of its cases. -/
import Derived.Test.YthdhleaigphgeaaURvcApart
set_option linter.unusedVariables false
set_option linter.unusedSimpArgs false
namespace Go.Proofs.Ythdhleaigphgeaa.Sx
open Go
noncomputable section
set_option maxRecDepth 100000
def lawPc15 : Pc := [(q10, true), (q9, false), (q7, false), (q8, true), (q5, false), (q0, false), (q1, false), (q2, true), (q3, true)]
theorem start15_yes : lawStart lawPc15 = true := by kernel_rfl
def lawPc33 : Pc := [(q10, true), (q9, false), (q7, false), (q8, true), (q5, false), (q0, false), (q12, true), (q11, false), (q2, false), (q3, true)]
theorem start33_yes : lawStart lawPc33 = true := by kernel_rfl
def lawPc51 : Pc := [(q10, true), (q9, false), (q7, false), (q8, true), (q5, false), (q0, false), (q14, true), (q13, false), (q12, false), (q11, false), (q2, false), (q3, true)]
theorem start51_yes : lawStart lawPc51 = true := by kernel_rfl
def lawPc69 : Pc := [(q6, false), (q4, false), (q5, true), (q0, false), (q2, true), (q15, true), (q16, true), (q3, false)]
theorem start69_yes : lawStart lawPc69 = true := by kernel_rfl
def lawPc87 : Pc := [(q6, false), (q4, false), (q5, true), (q0, false), (q18, false), (q19, true), (q2, false), (q15, true), (q16, true), (q3, false)]
theorem start87_yes : lawStart lawPc87 = true := by kernel_rfl
def lawPc105 : Pc := [(q6, true), (q4, false), (q5, true), (q0, false), (q20, true), (q21, true), (q11, false), (q19, false), (q2, false), (q15, true), (q16, true), (q3, false)]
theorem start105_yes : lawStart lawPc105 = true := by kernel_rfl
def lawPc123 : Pc := [(q0, true), (q22, true), (q21, false), (q11, false), (q19, false), (q2, false), (q15, true), (q16, true), (q3, false)]
theorem start123_yes : lawStart lawPc123 = true := by kernel_rfl
def lawPc141 : Pc := [(q10, false), (q9, false), (q7, false), (q8, true), (q5, false), (q0, false), (q22, false), (q21, false), (q11, false), (q19, false), (q2, false), (q15, true), (q16, true), (q3, false)]
theorem start141_yes : lawStart lawPc141 = true := by kernel_rfl
def lawPc159 : Pc := [(q10, true), (q9, false), (q7, false), (q8, true), (q5, false), (q0, false), (q13, true), (q23, false), (q15, false), (q16, true), (q3, false)]
theorem start159_yes : lawStart lawPc159 = true := by kernel_rfl
def lawPc177 : Pc := [(q25, true), (q24, false), (q6, false), (q4, false), (q5, true), (q0, false), (q26, true), (q14, false), (q13, false), (q23, false), (q15, false), (q16, true), (q3, false)]
theorem start177_yes : lawStart lawPc177 = true := by kernel_rfl
def lawPc195 : Pc := [(q10, true), (q9, false), (q7, false), (q8, true), (q5, false), (q0, false), (q28, true), (q26, false), (q14, false), (q13, false), (q23, false), (q15, false), (q16, true), (q3, false)]
theorem start195_yes : lawStart lawPc195 = true := by kernel_rfl
def lawPc213 : Pc := [(q6, true), (q4, false), (q5, true), (q0, false), (q31, true), (q30, false), (q28, false), (q26, false), (q14, false), (q13, false), (q23, false), (q15, false), (q16, true), (q3, false)]
theorem start213_yes : lawStart lawPc213 = true := by kernel_rfl
def lawPc231 : Pc := [(q29, false), (q27, false), (q25, false), (q24, false), (q6, false), (q4, false), (q5, true), (q0, false), (q32, true), (q31, false), (q30, false), (q28, false), (q26, false), (q14, false), (q13, false), (q23, false), (q15, false), (q16, true), (q3, false)]
theorem start231_yes : lawStart lawPc231 = true := by kernel_rfl
def lawPc249 : Pc := [(q8, false), (q5, false), (q0, false), (q33, true), (q32, false), (q31, false), (q30, false), (q28, false), (q26, false), (q14, false), (q13, false), (q23, false), (q15, false), (q16, true), (q3, false)]
theorem start249_yes : lawStart lawPc249 = true := by kernel_rfl
def lawPc267 : Pc := [(q25, true), (q24, false), (q6, false), (q4, false), (q5, true), (q0, false), (q35, true), (q34, false), (q33, false), (q32, false), (q31, false), (q30, false), (q28, false), (q26, false), (q14, false), (q13, false), (q23, false), (q15, false), (q16, true), (q3, false)]
theorem start267_yes : lawStart lawPc267 = true := by kernel_rfl
def lawPc285 : Pc := [(q9, true), (q7, false), (q8, true), (q5, false), (q0, false), (q36, true), (q35, false), (q34, false), (q33, false), (q32, false), (q31, false), (q30, false), (q28, false), (q26, false), (q14, false), (q13, false), (q23, false), (q15, false), (q16, true), (q3, false)]
theorem start285_yes : lawStart lawPc285 = true := by kernel_rfl
def lawPc303 : Pc := [(q8, false), (q5, false), (q0, false), (q36, false), (q35, false), (q34, false), (q33, false), (q32, false), (q31, false), (q30, false), (q28, false), (q26, false), (q14, false), (q13, false), (q23, false), (q15, false), (q16, true), (q3, false)]
theorem start303_yes : lawStart lawPc303 = true := by kernel_rfl
def lawPc321 : Pc := [(q8, false), (q5, false), (q0, false), (q18, true), (q11, true), (q2, false), (q39, true), (q16, false), (q3, false)]
theorem start321_yes : lawStart lawPc321 = true := by kernel_rfl
def lawPc339 : Pc := [(q8, false), (q5, false), (q0, false), (q18, true), (q12, true), (q11, false), (q2, false), (q39, true), (q16, false), (q3, false)]
theorem start339_yes : lawStart lawPc339 = true := by kernel_rfl
def lawPc357 : Pc := [(q42, false), (q10, false), (q9, false), (q7, false), (q8, true), (q5, false), (q0, false), (q18, true), (q40, true), (q41, true), (q12, false), (q11, false), (q2, false), (q39, true), (q16, false), (q3, false)]
theorem start357_yes : lawStart lawPc357 = true := by kernel_rfl
def lawPc375 : Pc := [(q9, true), (q7, false), (q8, true), (q5, false), (q0, false), (q44, true), (q40, false), (q41, true), (q12, false), (q11, false), (q2, false), (q39, true), (q16, false), (q3, false)]
theorem start375_yes : lawStart lawPc375 = true := by kernel_rfl
def lawPc393 : Pc := [(q6, true), (q4, false), (q5, true), (q0, false), (q18, true), (q47, true), (q46, false), (q44, false), (q40, false), (q41, true), (q12, false), (q11, false), (q2, false), (q39, true), (q16, false), (q3, false)]
theorem start393_yes : lawStart lawPc393 = true := by kernel_rfl
def lawPc411 : Pc := [(q42, false), (q10, false), (q9, false), (q7, false), (q8, true), (q5, false), (q0, false), (q18, false), (q47, true), (q46, false), (q44, false), (q40, false), (q41, true), (q12, false), (q11, false), (q2, false), (q39, true), (q16, false), (q3, false)]
theorem start411_yes : lawStart lawPc411 = true := by kernel_rfl
def lawPc429 : Pc := [(q6, false), (q4, false), (q5, true), (q0, false), (q48, false), (q47, false), (q46, false), (q44, false), (q40, false), (q41, true), (q12, false), (q11, false), (q2, false), (q39, true), (q16, false), (q3, false)]
theorem start429_yes : lawStart lawPc429 = true := by kernel_rfl
def lawPc447 : Pc := [(q0, true), (q14, true), (q13, false), (q41, false), (q12, false), (q11, false), (q2, false), (q39, true), (q16, false), (q3, false)]
theorem start447_yes : lawStart lawPc447 = true := by kernel_rfl
def lawPc465 : Pc := [(q43, false), (q42, true), (q10, false), (q9, false), (q7, false), (q8, true), (q5, false), (q0, false), (q14, false), (q13, false), (q41, false), (q12, false), (q11, false), (q2, false), (q39, true), (q16, false), (q3, false)]
theorem start465_yes : lawStart lawPc465 = true := by kernel_rfl
end
end Go.Proofs.Ythdhleaigphgeaa.Sx
