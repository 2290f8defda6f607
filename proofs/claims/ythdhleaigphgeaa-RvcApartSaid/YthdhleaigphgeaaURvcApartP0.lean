/- RvcApart: a part of its cases. -/
import Derived.Test.YthdhleaigphgeaaURvcApart
set_option linter.unusedVariables false
set_option linter.unusedSimpArgs false
namespace Go.Proofs.Ythdhleaigphgeaa.Sx
open Go
noncomputable section
set_option maxRecDepth 100000
def lawPc0 : Pc := [(q0, true), (q1, true), (q2, true), (q3, true)]
theorem start0_yes : lawStart lawPc0 = true := by kernel_rfl
def lawPc18 : Pc := [(q0, true), (q11, true), (q2, false), (q3, true)]
theorem start18_yes : lawStart lawPc18 = true := by kernel_rfl
def lawPc36 : Pc := [(q0, true), (q13, true), (q12, false), (q11, false), (q2, false), (q3, true)]
theorem start36_yes : lawStart lawPc36 = true := by kernel_rfl
def lawPc54 : Pc := [(q7, true), (q0, true), (q14, false), (q13, false), (q12, false), (q11, false), (q2, false), (q3, true)]
theorem start54_yes : lawStart lawPc54 = true := by kernel_rfl
def lawPc72 : Pc := [(q10, true), (q9, false), (q7, false), (q8, true), (q5, false), (q0, false), (q2, true), (q15, true), (q16, true), (q3, false)]
theorem start72_yes : lawStart lawPc72 = true := by kernel_rfl
def lawPc90 : Pc := [(q10, true), (q9, false), (q7, false), (q8, true), (q5, false), (q0, false), (q18, false), (q19, true), (q2, false), (q15, true), (q16, true), (q3, false)]
theorem start90_yes : lawStart lawPc90 = true := by kernel_rfl
def lawPc108 : Pc := [(q9, true), (q7, false), (q8, true), (q5, false), (q0, false), (q20, true), (q21, true), (q11, false), (q19, false), (q2, false), (q15, true), (q16, true), (q3, false)]
theorem start108_yes : lawStart lawPc108 = true := by kernel_rfl
def lawPc126 : Pc := [(q6, false), (q4, false), (q5, true), (q0, false), (q22, true), (q21, false), (q11, false), (q19, false), (q2, false), (q15, true), (q16, true), (q3, false)]
theorem start126_yes : lawStart lawPc126 = true := by kernel_rfl
def lawPc144 : Pc := [(q4, true), (q5, true), (q0, false), (q23, true), (q15, false), (q16, true), (q3, false)]
theorem start144_yes : lawStart lawPc144 = true := by kernel_rfl
def lawPc162 : Pc := [(q0, true), (q14, true), (q13, false), (q23, false), (q15, false), (q16, true), (q3, false)]
theorem start162_yes : lawStart lawPc162 = true := by kernel_rfl
def lawPc180 : Pc := [(q7, true), (q8, true), (q5, false), (q0, false), (q26, true), (q14, false), (q13, false), (q23, false), (q15, false), (q16, true), (q3, false)]
theorem start180_yes : lawStart lawPc180 = true := by kernel_rfl
def lawPc198 : Pc := [(q0, true), (q30, true), (q28, false), (q26, false), (q14, false), (q13, false), (q23, false), (q15, false), (q16, true), (q3, false)]
theorem start198_yes : lawStart lawPc198 = true := by kernel_rfl
def lawPc216 : Pc := [(q27, true), (q25, false), (q24, false), (q6, false), (q4, false), (q5, true), (q0, false), (q31, true), (q30, false), (q28, false), (q26, false), (q14, false), (q13, false), (q23, false), (q15, false), (q16, true), (q3, false)]
theorem start216_yes : lawStart lawPc216 = true := by kernel_rfl
def lawPc234 : Pc := [(q10, true), (q9, false), (q7, false), (q8, true), (q5, false), (q0, false), (q32, true), (q31, false), (q30, false), (q28, false), (q26, false), (q14, false), (q13, false), (q23, false), (q15, false), (q16, true), (q3, false)]
theorem start234_yes : lawStart lawPc234 = true := by kernel_rfl
def lawPc252 : Pc := [(q6, true), (q4, false), (q5, true), (q0, false), (q34, true), (q33, false), (q32, false), (q31, false), (q30, false), (q28, false), (q26, false), (q14, false), (q13, false), (q23, false), (q15, false), (q16, true), (q3, false)]
theorem start252_yes : lawStart lawPc252 = true := by kernel_rfl
def lawPc270 : Pc := [(q29, false), (q27, false), (q25, false), (q24, false), (q6, false), (q4, false), (q5, true), (q0, false), (q35, true), (q34, false), (q33, false), (q32, false), (q31, false), (q30, false), (q28, false), (q26, false), (q14, false), (q13, false), (q23, false), (q15, false), (q16, true), (q3, false)]
theorem start270_yes : lawStart lawPc270 = true := by kernel_rfl
def lawPc288 : Pc := [(q8, false), (q5, false), (q0, false), (q36, true), (q35, false), (q34, false), (q33, false), (q32, false), (q31, false), (q30, false), (q28, false), (q26, false), (q14, false), (q13, false), (q23, false), (q15, false), (q16, true), (q3, false)]
theorem start288_yes : lawStart lawPc288 = true := by kernel_rfl
def lawPc306 : Pc := [(q6, true), (q4, false), (q5, true), (q0, false), (q2, true), (q39, true), (q16, false), (q3, false)]
theorem start306_yes : lawStart lawPc306 = true := by kernel_rfl
def lawPc324 : Pc := [(q6, true), (q4, false), (q5, true), (q0, false), (q18, false), (q11, true), (q2, false), (q39, true), (q16, false), (q3, false)]
theorem start324_yes : lawStart lawPc324 = true := by kernel_rfl
def lawPc342 : Pc := [(q6, true), (q4, false), (q5, true), (q0, false), (q18, false), (q12, true), (q11, false), (q2, false), (q39, true), (q16, false), (q3, false)]
theorem start342_yes : lawStart lawPc342 = true := by kernel_rfl
def lawPc360 : Pc := [(q4, true), (q5, true), (q0, false), (q18, false), (q40, true), (q41, true), (q12, false), (q11, false), (q2, false), (q39, true), (q16, false), (q3, false)]
theorem start360_yes : lawStart lawPc360 = true := by kernel_rfl
def lawPc378 : Pc := [(q45, true), (q43, false), (q42, true), (q10, false), (q9, false), (q7, false), (q8, true), (q5, false), (q0, false), (q44, true), (q40, false), (q41, true), (q12, false), (q11, false), (q2, false), (q39, true), (q16, false), (q3, false)]
theorem start378_yes : lawStart lawPc378 = true := by kernel_rfl
def lawPc396 : Pc := [(q9, true), (q7, false), (q8, true), (q5, false), (q0, false), (q18, true), (q47, true), (q46, false), (q44, false), (q40, false), (q41, true), (q12, false), (q11, false), (q2, false), (q39, true), (q16, false), (q3, false)]
theorem start396_yes : lawStart lawPc396 = true := by kernel_rfl
def lawPc414 : Pc := [(q4, true), (q5, true), (q0, false), (q48, true), (q47, false), (q46, false), (q44, false), (q40, false), (q41, true), (q12, false), (q11, false), (q2, false), (q39, true), (q16, false), (q3, false)]
theorem start414_yes : lawStart lawPc414 = true := by kernel_rfl
def lawPc432 : Pc := [(q10, true), (q9, false), (q7, false), (q8, true), (q5, false), (q0, false), (q48, false), (q47, false), (q46, false), (q44, false), (q40, false), (q41, true), (q12, false), (q11, false), (q2, false), (q39, true), (q16, false), (q3, false)]
theorem start432_yes : lawStart lawPc432 = true := by kernel_rfl
def lawPc450 : Pc := [(q6, false), (q4, false), (q5, true), (q0, false), (q14, true), (q13, false), (q41, false), (q12, false), (q11, false), (q2, false), (q39, true), (q16, false), (q3, false)]
theorem start450_yes : lawStart lawPc450 = true := by kernel_rfl
def lawPc468 : Pc := [(q0, true), (q39, false), (q16, false), (q3, false)]
theorem start468_yes : lawStart lawPc468 = true := by kernel_rfl
end
end Go.Proofs.Ythdhleaigphgeaa.Sx
