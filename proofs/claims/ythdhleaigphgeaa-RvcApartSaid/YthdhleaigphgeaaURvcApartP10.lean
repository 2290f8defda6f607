/- RvcApart: a part of its cases. -/
import Derived.Test.YthdhleaigphgeaaURvcApart
set_option linter.unusedVariables false
set_option linter.unusedSimpArgs false
namespace Go.Proofs.Ythdhleaigphgeaa.Sx
open Go
noncomputable section
set_option maxRecDepth 100000
def lawPc10 : Pc := [(q4, true), (q5, true), (q0, false), (q1, false), (q2, true), (q3, true)]
theorem start10_yes : lawStart lawPc10 = true := by kernel_rfl
def lawPc28 : Pc := [(q4, true), (q5, true), (q0, false), (q12, true), (q11, false), (q2, false), (q3, true)]
theorem start28_yes : lawStart lawPc28 = true := by kernel_rfl
def lawPc46 : Pc := [(q4, true), (q5, true), (q0, false), (q14, true), (q13, false), (q12, false), (q11, false), (q2, false), (q3, true)]
theorem start46_yes : lawStart lawPc46 = true := by kernel_rfl
def lawPc64 : Pc := [(q0, true), (q2, true), (q15, true), (q16, true), (q3, false)]
theorem start64_yes : lawStart lawPc64 = true := by kernel_rfl
def lawPc82 : Pc := [(q10, false), (q9, false), (q7, false), (q8, true), (q5, false), (q0, false), (q18, true), (q19, true), (q2, false), (q15, true), (q16, true), (q3, false)]
theorem start82_yes : lawStart lawPc82 = true := by kernel_rfl
def lawPc100 : Pc := [(q10, true), (q9, false), (q7, false), (q8, true), (q5, false), (q0, false), (q11, true), (q19, false), (q2, false), (q15, true), (q16, true), (q3, false)]
theorem start100_yes : lawStart lawPc100 = true := by kernel_rfl
def lawPc118 : Pc := [(q7, true), (q8, true), (q5, false), (q0, false), (q20, false), (q21, true), (q11, false), (q19, false), (q2, false), (q15, true), (q16, true), (q3, false)]
theorem start118_yes : lawStart lawPc118 = true := by kernel_rfl
def lawPc136 : Pc := [(q6, true), (q4, false), (q5, true), (q0, false), (q22, false), (q21, false), (q11, false), (q19, false), (q2, false), (q15, true), (q16, true), (q3, false)]
theorem start136_yes : lawStart lawPc136 = true := by kernel_rfl
def lawPc154 : Pc := [(q6, true), (q4, false), (q5, true), (q0, false), (q13, true), (q23, false), (q15, false), (q16, true), (q3, false)]
theorem start154_yes : lawStart lawPc154 = true := by kernel_rfl
def lawPc172 : Pc := [(q8, false), (q5, false), (q0, false), (q14, true), (q13, false), (q23, false), (q15, false), (q16, true), (q3, false)]
theorem start172_yes : lawStart lawPc172 = true := by kernel_rfl
def lawPc190 : Pc := [(q27, true), (q25, false), (q24, false), (q6, false), (q4, false), (q5, true), (q0, false), (q28, true), (q26, false), (q14, false), (q13, false), (q23, false), (q15, false), (q16, true), (q3, false)]
theorem start190_yes : lawStart lawPc190 = true := by kernel_rfl
def lawPc208 : Pc := [(q10, true), (q9, false), (q7, false), (q8, true), (q5, false), (q0, false), (q30, true), (q28, false), (q26, false), (q14, false), (q13, false), (q23, false), (q15, false), (q16, true), (q3, false)]
theorem start208_yes : lawStart lawPc208 = true := by kernel_rfl
def lawPc226 : Pc := [(q6, true), (q4, false), (q5, true), (q0, false), (q32, true), (q31, false), (q30, false), (q28, false), (q26, false), (q14, false), (q13, false), (q23, false), (q15, false), (q16, true), (q3, false)]
theorem start226_yes : lawStart lawPc226 = true := by kernel_rfl
def lawPc244 : Pc := [(q29, false), (q27, false), (q25, false), (q24, false), (q6, false), (q4, false), (q5, true), (q0, false), (q33, true), (q32, false), (q31, false), (q30, false), (q28, false), (q26, false), (q14, false), (q13, false), (q23, false), (q15, false), (q16, true), (q3, false)]
theorem start244_yes : lawStart lawPc244 = true := by kernel_rfl
def lawPc262 : Pc := [(q8, false), (q5, false), (q0, false), (q34, true), (q33, false), (q32, false), (q31, false), (q30, false), (q28, false), (q26, false), (q14, false), (q13, false), (q23, false), (q15, false), (q16, true), (q3, false)]
theorem start262_yes : lawStart lawPc262 = true := by kernel_rfl
def lawPc280 : Pc := [(q25, true), (q24, false), (q6, false), (q4, false), (q5, true), (q0, false), (q36, true), (q35, false), (q34, false), (q33, false), (q32, false), (q31, false), (q30, false), (q28, false), (q26, false), (q14, false), (q13, false), (q23, false), (q15, false), (q16, true), (q3, false)]
theorem start280_yes : lawStart lawPc280 = true := by kernel_rfl
def lawPc298 : Pc := [(q38, false), (q37, false), (q29, false), (q27, false), (q25, false), (q24, false), (q6, false), (q4, false), (q5, true), (q0, false), (q36, false), (q35, false), (q34, false), (q33, false), (q32, false), (q31, false), (q30, false), (q28, false), (q26, false), (q14, false), (q13, false), (q23, false), (q15, false), (q16, true), (q3, false)]
theorem start298_yes : lawStart lawPc298 = true := by kernel_rfl
def lawPc316 : Pc := [(q6, false), (q4, false), (q5, true), (q0, false), (q18, true), (q11, true), (q2, false), (q39, true), (q16, false), (q3, false)]
theorem start316_yes : lawStart lawPc316 = true := by kernel_rfl
def lawPc334 : Pc := [(q6, false), (q4, false), (q5, true), (q0, false), (q18, true), (q12, true), (q11, false), (q2, false), (q39, true), (q16, false), (q3, false)]
theorem start334_yes : lawStart lawPc334 = true := by kernel_rfl
def lawPc352 : Pc := [(q6, false), (q4, false), (q5, true), (q0, false), (q18, true), (q40, true), (q41, true), (q12, false), (q11, false), (q2, false), (q39, true), (q16, false), (q3, false)]
theorem start352_yes : lawStart lawPc352 = true := by kernel_rfl
def lawPc370 : Pc := [(q0, true), (q44, true), (q40, false), (q41, true), (q12, false), (q11, false), (q2, false), (q39, true), (q16, false), (q3, false)]
theorem start370_yes : lawStart lawPc370 = true := by kernel_rfl
def lawPc388 : Pc := [(q10, true), (q9, false), (q7, false), (q8, true), (q5, false), (q0, false), (q46, true), (q44, false), (q40, false), (q41, true), (q12, false), (q11, false), (q2, false), (q39, true), (q16, false), (q3, false)]
theorem start388_yes : lawStart lawPc388 = true := by kernel_rfl
def lawPc406 : Pc := [(q9, true), (q7, false), (q8, true), (q5, false), (q0, false), (q18, false), (q47, true), (q46, false), (q44, false), (q40, false), (q41, true), (q12, false), (q11, false), (q2, false), (q39, true), (q16, false), (q3, false)]
theorem start406_yes : lawStart lawPc406 = true := by kernel_rfl
def lawPc424 : Pc := [(q42, false), (q10, false), (q9, false), (q7, false), (q8, true), (q5, false), (q0, false), (q48, true), (q47, false), (q46, false), (q44, false), (q40, false), (q41, true), (q12, false), (q11, false), (q2, false), (q39, true), (q16, false), (q3, false)]
theorem start424_yes : lawStart lawPc424 = true := by kernel_rfl
def lawPc442 : Pc := [(q9, true), (q7, false), (q8, true), (q5, false), (q0, false), (q13, true), (q41, false), (q12, false), (q11, false), (q2, false), (q39, true), (q16, false), (q3, false)]
theorem start442_yes : lawStart lawPc442 = true := by kernel_rfl
def lawPc460 : Pc := [(q6, false), (q4, false), (q5, true), (q0, false), (q14, false), (q13, false), (q41, false), (q12, false), (q11, false), (q2, false), (q39, true), (q16, false), (q3, false)]
theorem start460_yes : lawStart lawPc460 = true := by kernel_rfl
end
end Go.Proofs.Ythdhleaigphgeaa.Sx
