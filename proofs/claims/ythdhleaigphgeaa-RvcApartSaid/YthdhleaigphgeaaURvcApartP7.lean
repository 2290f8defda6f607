/- RvcApart: a part of its cases. -/
import Derived.Test.YthdhleaigphgeaaURvcApart
set_option linter.unusedVariables false
set_option linter.unusedSimpArgs false
namespace Go.Proofs.Ythdhleaigphgeaa.Sx
open Go
noncomputable section
set_option maxRecDepth 100000
def lawPc7 : Pc := [(q10, false), (q9, false), (q7, false), (q8, true), (q5, false), (q0, false), (q1, true), (q2, true), (q3, true)]
theorem start7_yes : lawStart lawPc7 = true := by kernel_rfl
def lawPc25 : Pc := [(q10, false), (q9, false), (q7, false), (q8, true), (q5, false), (q0, false), (q11, true), (q2, false), (q3, true)]
theorem start25_yes : lawStart lawPc25 = true := by kernel_rfl
def lawPc43 : Pc := [(q10, false), (q9, false), (q7, false), (q8, true), (q5, false), (q0, false), (q13, true), (q12, false), (q11, false), (q2, false), (q3, true)]
theorem start43_yes : lawStart lawPc43 = true := by kernel_rfl
def lawPc61 : Pc := [(q10, true), (q9, false), (q7, false), (q8, true), (q5, false), (q0, false), (q14, false), (q13, false), (q12, false), (q11, false), (q2, false), (q3, true)]
theorem start61_yes : lawStart lawPc61 = true := by kernel_rfl
def lawPc79 : Pc := [(q7, true), (q8, true), (q5, false), (q0, false), (q18, true), (q19, true), (q2, false), (q15, true), (q16, true), (q3, false)]
theorem start79_yes : lawStart lawPc79 = true := by kernel_rfl
def lawPc97 : Pc := [(q6, false), (q4, false), (q5, true), (q0, false), (q11, true), (q19, false), (q2, false), (q15, true), (q16, true), (q3, false)]
theorem start97_yes : lawStart lawPc97 = true := by kernel_rfl
def lawPc115 : Pc := [(q17, false), (q7, false), (q4, true), (q5, true), (q0, false), (q20, false), (q21, true), (q11, false), (q19, false), (q2, false), (q15, true), (q16, true), (q3, false)]
theorem start115_yes : lawStart lawPc115 = true := by kernel_rfl
def lawPc133 : Pc := [(q7, true), (q4, true), (q5, true), (q0, false), (q22, false), (q21, false), (q11, false), (q19, false), (q2, false), (q15, true), (q16, true), (q3, false)]
theorem start133_yes : lawStart lawPc133 = true := by kernel_rfl
def lawPc151 : Pc := [(q8, false), (q5, false), (q0, false), (q23, true), (q15, false), (q16, true), (q3, false)]
theorem start151_yes : lawStart lawPc151 = true := by kernel_rfl
def lawPc169 : Pc := [(q9, true), (q7, false), (q8, true), (q5, false), (q0, false), (q14, true), (q13, false), (q23, false), (q15, false), (q16, true), (q3, false)]
theorem start169_yes : lawStart lawPc169 = true := by kernel_rfl
def lawPc187 : Pc := [(q6, true), (q4, false), (q5, true), (q0, false), (q28, true), (q26, false), (q14, false), (q13, false), (q23, false), (q15, false), (q16, true), (q3, false)]
theorem start187_yes : lawStart lawPc187 = true := by kernel_rfl
def lawPc205 : Pc := [(q29, false), (q27, false), (q25, false), (q24, false), (q6, false), (q4, false), (q5, true), (q0, false), (q30, true), (q28, false), (q26, false), (q14, false), (q13, false), (q23, false), (q15, false), (q16, true), (q3, false)]
theorem start205_yes : lawStart lawPc205 = true := by kernel_rfl
def lawPc223 : Pc := [(q8, false), (q5, false), (q0, false), (q31, true), (q30, false), (q28, false), (q26, false), (q14, false), (q13, false), (q23, false), (q15, false), (q16, true), (q3, false)]
theorem start223_yes : lawStart lawPc223 = true := by kernel_rfl
def lawPc241 : Pc := [(q25, true), (q24, false), (q6, false), (q4, false), (q5, true), (q0, false), (q33, true), (q32, false), (q31, false), (q30, false), (q28, false), (q26, false), (q14, false), (q13, false), (q23, false), (q15, false), (q16, true), (q3, false)]
theorem start241_yes : lawStart lawPc241 = true := by kernel_rfl
def lawPc259 : Pc := [(q9, true), (q7, false), (q8, true), (q5, false), (q0, false), (q34, true), (q33, false), (q32, false), (q31, false), (q30, false), (q28, false), (q26, false), (q14, false), (q13, false), (q23, false), (q15, false), (q16, true), (q3, false)]
theorem start259_yes : lawStart lawPc259 = true := by kernel_rfl
def lawPc277 : Pc := [(q4, true), (q5, true), (q0, false), (q36, true), (q35, false), (q34, false), (q33, false), (q32, false), (q31, false), (q30, false), (q28, false), (q26, false), (q14, false), (q13, false), (q23, false), (q15, false), (q16, true), (q3, false)]
theorem start277_yes : lawStart lawPc277 = true := by kernel_rfl
def lawPc295 : Pc := [(q29, true), (q27, false), (q25, false), (q24, false), (q6, false), (q4, false), (q5, true), (q0, false), (q36, false), (q35, false), (q34, false), (q33, false), (q32, false), (q31, false), (q30, false), (q28, false), (q26, false), (q14, false), (q13, false), (q23, false), (q15, false), (q16, true), (q3, false)]
theorem start295_yes : lawStart lawPc295 = true := by kernel_rfl
def lawPc313 : Pc := [(q0, true), (q18, true), (q11, true), (q2, false), (q39, true), (q16, false), (q3, false)]
theorem start313_yes : lawStart lawPc313 = true := by kernel_rfl
def lawPc331 : Pc := [(q0, true), (q18, true), (q12, true), (q11, false), (q2, false), (q39, true), (q16, false), (q3, false)]
theorem start331_yes : lawStart lawPc331 = true := by kernel_rfl
def lawPc349 : Pc := [(q0, true), (q18, true), (q40, true), (q41, true), (q12, false), (q11, false), (q2, false), (q39, true), (q16, false), (q3, false)]
theorem start349_yes : lawStart lawPc349 = true := by kernel_rfl
def lawPc367 : Pc := [(q43, false), (q42, true), (q10, false), (q9, false), (q7, false), (q8, true), (q5, false), (q0, false), (q18, false), (q40, true), (q41, true), (q12, false), (q11, false), (q2, false), (q39, true), (q16, false), (q3, false)]
theorem start367_yes : lawStart lawPc367 = true := by kernel_rfl
def lawPc385 : Pc := [(q6, false), (q4, false), (q5, true), (q0, false), (q46, true), (q44, false), (q40, false), (q41, true), (q12, false), (q11, false), (q2, false), (q39, true), (q16, false), (q3, false)]
theorem start385_yes : lawStart lawPc385 = true := by kernel_rfl
def lawPc403 : Pc := [(q6, true), (q4, false), (q5, true), (q0, false), (q18, false), (q47, true), (q46, false), (q44, false), (q40, false), (q41, true), (q12, false), (q11, false), (q2, false), (q39, true), (q16, false), (q3, false)]
theorem start403_yes : lawStart lawPc403 = true := by kernel_rfl
def lawPc421 : Pc := [(q45, true), (q43, false), (q42, true), (q10, false), (q9, false), (q7, false), (q8, true), (q5, false), (q0, false), (q48, true), (q47, false), (q46, false), (q44, false), (q40, false), (q41, true), (q12, false), (q11, false), (q2, false), (q39, true), (q16, false), (q3, false)]
theorem start421_yes : lawStart lawPc421 = true := by kernel_rfl
def lawPc439 : Pc := [(q6, true), (q4, false), (q5, true), (q0, false), (q13, true), (q41, false), (q12, false), (q11, false), (q2, false), (q39, true), (q16, false), (q3, false)]
theorem start439_yes : lawStart lawPc439 = true := by kernel_rfl
def lawPc457 : Pc := [(q0, true), (q14, false), (q13, false), (q41, false), (q12, false), (q11, false), (q2, false), (q39, true), (q16, false), (q3, false)]
theorem start457_yes : lawStart lawPc457 = true := by kernel_rfl
def lawPc475 : Pc := [(q10, false), (q9, false), (q7, false), (q8, true), (q5, false), (q0, false), (q39, false), (q16, false), (q3, false)]
theorem start475_yes : lawStart lawPc475 = true := by kernel_rfl
end
end Go.Proofs.Ythdhleaigphgeaa.Sx
