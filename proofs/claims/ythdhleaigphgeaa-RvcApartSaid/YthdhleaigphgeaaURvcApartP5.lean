/- RvcApart: a part of its cases. -/
import Derived.Test.YthdhleaigphgeaaURvcApart
set_option linter.unusedVariables false
set_option linter.unusedSimpArgs false
namespace Go.Proofs.Ythdhleaigphgeaa.Sx
open Go
noncomputable section
set_option maxRecDepth 100000
def lawPc5 : Pc := [(q9, true), (q7, false), (q8, true), (q5, false), (q0, false), (q1, true), (q2, true), (q3, true)]
theorem start5_yes : lawStart lawPc5 = true := by kernel_rfl
def lawPc23 : Pc := [(q9, true), (q7, false), (q8, true), (q5, false), (q0, false), (q11, true), (q2, false), (q3, true)]
theorem start23_yes : lawStart lawPc23 = true := by kernel_rfl
def lawPc41 : Pc := [(q9, true), (q7, false), (q8, true), (q5, false), (q0, false), (q13, true), (q12, false), (q11, false), (q2, false), (q3, true)]
theorem start41_yes : lawStart lawPc41 = true := by kernel_rfl
def lawPc59 : Pc := [(q7, true), (q8, true), (q5, false), (q0, false), (q14, false), (q13, false), (q12, false), (q11, false), (q2, false), (q3, true)]
theorem start59_yes : lawStart lawPc59 = true := by kernel_rfl
def lawPc77 : Pc := [(q6, true), (q4, false), (q5, true), (q0, false), (q18, true), (q19, true), (q2, false), (q15, true), (q16, true), (q3, false)]
theorem start77_yes : lawStart lawPc77 = true := by kernel_rfl
def lawPc95 : Pc := [(q7, false), (q4, true), (q5, true), (q0, false), (q11, true), (q19, false), (q2, false), (q15, true), (q16, true), (q3, false)]
theorem start95_yes : lawStart lawPc95 = true := by kernel_rfl
def lawPc113 : Pc := [(q7, true), (q4, true), (q5, true), (q0, false), (q20, false), (q21, true), (q11, false), (q19, false), (q2, false), (q15, true), (q16, true), (q3, false)]
theorem start113_yes : lawStart lawPc113 = true := by kernel_rfl
def lawPc131 : Pc := [(q8, false), (q5, false), (q0, false), (q22, true), (q21, false), (q11, false), (q19, false), (q2, false), (q15, true), (q16, true), (q3, false)]
theorem start131_yes : lawStart lawPc131 = true := by kernel_rfl
def lawPc149 : Pc := [(q10, true), (q9, false), (q7, false), (q8, true), (q5, false), (q0, false), (q23, true), (q15, false), (q16, true), (q3, false)]
theorem start149_yes : lawStart lawPc149 = true := by kernel_rfl
def lawPc167 : Pc := [(q25, false), (q24, false), (q6, false), (q4, false), (q5, true), (q0, false), (q14, true), (q13, false), (q23, false), (q15, false), (q16, true), (q3, false)]
theorem start167_yes : lawStart lawPc167 = true := by kernel_rfl
def lawPc185 : Pc := [(q0, true), (q28, true), (q26, false), (q14, false), (q13, false), (q23, false), (q15, false), (q16, true), (q3, false)]
theorem start185_yes : lawStart lawPc185 = true := by kernel_rfl
def lawPc203 : Pc := [(q27, true), (q25, false), (q24, false), (q6, false), (q4, false), (q5, true), (q0, false), (q30, true), (q28, false), (q26, false), (q14, false), (q13, false), (q23, false), (q15, false), (q16, true), (q3, false)]
theorem start203_yes : lawStart lawPc203 = true := by kernel_rfl
def lawPc221 : Pc := [(q10, true), (q9, false), (q7, false), (q8, true), (q5, false), (q0, false), (q31, true), (q30, false), (q28, false), (q26, false), (q14, false), (q13, false), (q23, false), (q15, false), (q16, true), (q3, false)]
theorem start221_yes : lawStart lawPc221 = true := by kernel_rfl
def lawPc239 : Pc := [(q6, true), (q4, false), (q5, true), (q0, false), (q33, true), (q32, false), (q31, false), (q30, false), (q28, false), (q26, false), (q14, false), (q13, false), (q23, false), (q15, false), (q16, true), (q3, false)]
theorem start239_yes : lawStart lawPc239 = true := by kernel_rfl
def lawPc257 : Pc := [(q29, false), (q27, false), (q25, false), (q24, false), (q6, false), (q4, false), (q5, true), (q0, false), (q34, true), (q33, false), (q32, false), (q31, false), (q30, false), (q28, false), (q26, false), (q14, false), (q13, false), (q23, false), (q15, false), (q16, true), (q3, false)]
theorem start257_yes : lawStart lawPc257 = true := by kernel_rfl
def lawPc275 : Pc := [(q8, false), (q5, false), (q0, false), (q35, true), (q34, false), (q33, false), (q32, false), (q31, false), (q30, false), (q28, false), (q26, false), (q14, false), (q13, false), (q23, false), (q15, false), (q16, true), (q3, false)]
theorem start275_yes : lawStart lawPc275 = true := by kernel_rfl
def lawPc293 : Pc := [(q25, true), (q24, false), (q6, false), (q4, false), (q5, true), (q0, false), (q36, false), (q35, false), (q34, false), (q33, false), (q32, false), (q31, false), (q30, false), (q28, false), (q26, false), (q14, false), (q13, false), (q23, false), (q15, false), (q16, true), (q3, false)]
theorem start293_yes : lawStart lawPc293 = true := by kernel_rfl
def lawPc311 : Pc := [(q10, false), (q9, false), (q7, false), (q8, true), (q5, false), (q0, false), (q2, true), (q39, true), (q16, false), (q3, false)]
theorem start311_yes : lawStart lawPc311 = true := by kernel_rfl
def lawPc329 : Pc := [(q10, false), (q9, false), (q7, false), (q8, true), (q5, false), (q0, false), (q18, false), (q11, true), (q2, false), (q39, true), (q16, false), (q3, false)]
theorem start329_yes : lawStart lawPc329 = true := by kernel_rfl
def lawPc347 : Pc := [(q10, false), (q9, false), (q7, false), (q8, true), (q5, false), (q0, false), (q18, false), (q12, true), (q11, false), (q2, false), (q39, true), (q16, false), (q3, false)]
theorem start347_yes : lawStart lawPc347 = true := by kernel_rfl
def lawPc365 : Pc := [(q10, true), (q9, false), (q7, false), (q8, true), (q5, false), (q0, false), (q18, false), (q40, true), (q41, true), (q12, false), (q11, false), (q2, false), (q39, true), (q16, false), (q3, false)]
theorem start365_yes : lawStart lawPc365 = true := by kernel_rfl
def lawPc383 : Pc := [(q4, true), (q5, true), (q0, false), (q46, true), (q44, false), (q40, false), (q41, true), (q12, false), (q11, false), (q2, false), (q39, true), (q16, false), (q3, false)]
theorem start383_yes : lawStart lawPc383 = true := by kernel_rfl
def lawPc401 : Pc := [(q0, true), (q18, false), (q47, true), (q46, false), (q44, false), (q40, false), (q41, true), (q12, false), (q11, false), (q2, false), (q39, true), (q16, false), (q3, false)]
theorem start401_yes : lawStart lawPc401 = true := by kernel_rfl
def lawPc419 : Pc := [(q10, true), (q9, false), (q7, false), (q8, true), (q5, false), (q0, false), (q48, true), (q47, false), (q46, false), (q44, false), (q40, false), (q41, true), (q12, false), (q11, false), (q2, false), (q39, true), (q16, false), (q3, false)]
theorem start419_yes : lawStart lawPc419 = true := by kernel_rfl
def lawPc437 : Pc := [(q0, true), (q13, true), (q41, false), (q12, false), (q11, false), (q2, false), (q39, true), (q16, false), (q3, false)]
theorem start437_yes : lawStart lawPc437 = true := by kernel_rfl
def lawPc455 : Pc := [(q42, false), (q10, false), (q9, false), (q7, false), (q8, true), (q5, false), (q0, false), (q14, true), (q13, false), (q41, false), (q12, false), (q11, false), (q2, false), (q39, true), (q16, false), (q3, false)]
theorem start455_yes : lawStart lawPc455 = true := by kernel_rfl
def lawPc473 : Pc := [(q9, true), (q7, false), (q8, true), (q5, false), (q0, false), (q39, false), (q16, false), (q3, false)]
theorem start473_yes : lawStart lawPc473 = true := by kernel_rfl
end
end Go.Proofs.Ythdhleaigphgeaa.Sx
