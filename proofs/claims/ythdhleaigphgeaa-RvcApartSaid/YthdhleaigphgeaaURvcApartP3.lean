/- RvcApart: a part of its cases. -/
import Derived.Test.YthdhleaigphgeaaURvcApart
set_option linter.unusedVariables false
set_option linter.unusedSimpArgs false
namespace Go.Proofs.Ythdhleaigphgeaa.Sx
open Go
noncomputable section
set_option maxRecDepth 100000
def lawPc3 : Pc := [(q6, false), (q4, false), (q5, true), (q0, false), (q1, true), (q2, true), (q3, true)]
theorem start3_yes : lawStart lawPc3 = true := by kernel_rfl
def lawPc21 : Pc := [(q6, false), (q4, false), (q5, true), (q0, false), (q11, true), (q2, false), (q3, true)]
theorem start21_yes : lawStart lawPc21 = true := by kernel_rfl
def lawPc39 : Pc := [(q6, false), (q4, false), (q5, true), (q0, false), (q13, true), (q12, false), (q11, false), (q2, false), (q3, true)]
theorem start39_yes : lawStart lawPc39 = true := by kernel_rfl
def lawPc57 : Pc := [(q6, true), (q4, false), (q5, true), (q0, false), (q14, false), (q13, false), (q12, false), (q11, false), (q2, false), (q3, true)]
theorem start57_yes : lawStart lawPc57 = true := by kernel_rfl
def lawPc75 : Pc := [(q0, true), (q18, true), (q19, true), (q2, false), (q15, true), (q16, true), (q3, false)]
theorem start75_yes : lawStart lawPc75 = true := by kernel_rfl
def lawPc93 : Pc := [(q0, true), (q11, true), (q19, false), (q2, false), (q15, true), (q16, true), (q3, false)]
theorem start93_yes : lawStart lawPc93 = true := by kernel_rfl
def lawPc111 : Pc := [(q8, false), (q5, false), (q0, false), (q20, true), (q21, true), (q11, false), (q19, false), (q2, false), (q15, true), (q16, true), (q3, false)]
theorem start111_yes : lawStart lawPc111 = true := by kernel_rfl
def lawPc129 : Pc := [(q10, true), (q9, false), (q7, false), (q8, true), (q5, false), (q0, false), (q22, true), (q21, false), (q11, false), (q19, false), (q2, false), (q15, true), (q16, true), (q3, false)]
theorem start129_yes : lawStart lawPc129 = true := by kernel_rfl
def lawPc147 : Pc := [(q7, true), (q8, true), (q5, false), (q0, false), (q23, true), (q15, false), (q16, true), (q3, false)]
theorem start147_yes : lawStart lawPc147 = true := by kernel_rfl
def lawPc165 : Pc := [(q24, true), (q6, false), (q4, false), (q5, true), (q0, false), (q14, true), (q13, false), (q23, false), (q15, false), (q16, true), (q3, false)]
theorem start165_yes : lawStart lawPc165 = true := by kernel_rfl
def lawPc183 : Pc := [(q10, false), (q9, false), (q7, false), (q8, true), (q5, false), (q0, false), (q26, true), (q14, false), (q13, false), (q23, false), (q15, false), (q16, true), (q3, false)]
theorem start183_yes : lawStart lawPc183 = true := by kernel_rfl
def lawPc201 : Pc := [(q24, true), (q6, false), (q4, false), (q5, true), (q0, false), (q30, true), (q28, false), (q26, false), (q14, false), (q13, false), (q23, false), (q15, false), (q16, true), (q3, false)]
theorem start201_yes : lawStart lawPc201 = true := by kernel_rfl
def lawPc219 : Pc := [(q7, true), (q8, true), (q5, false), (q0, false), (q31, true), (q30, false), (q28, false), (q26, false), (q14, false), (q13, false), (q23, false), (q15, false), (q16, true), (q3, false)]
theorem start219_yes : lawStart lawPc219 = true := by kernel_rfl
def lawPc237 : Pc := [(q0, true), (q33, true), (q32, false), (q31, false), (q30, false), (q28, false), (q26, false), (q14, false), (q13, false), (q23, false), (q15, false), (q16, true), (q3, false)]
theorem start237_yes : lawStart lawPc237 = true := by kernel_rfl
def lawPc255 : Pc := [(q27, true), (q25, false), (q24, false), (q6, false), (q4, false), (q5, true), (q0, false), (q34, true), (q33, false), (q32, false), (q31, false), (q30, false), (q28, false), (q26, false), (q14, false), (q13, false), (q23, false), (q15, false), (q16, true), (q3, false)]
theorem start255_yes : lawStart lawPc255 = true := by kernel_rfl
def lawPc273 : Pc := [(q10, true), (q9, false), (q7, false), (q8, true), (q5, false), (q0, false), (q35, true), (q34, false), (q33, false), (q32, false), (q31, false), (q30, false), (q28, false), (q26, false), (q14, false), (q13, false), (q23, false), (q15, false), (q16, true), (q3, false)]
theorem start273_yes : lawStart lawPc273 = true := by kernel_rfl
def lawPc291 : Pc := [(q6, true), (q4, false), (q5, true), (q0, false), (q36, false), (q35, false), (q34, false), (q33, false), (q32, false), (q31, false), (q30, false), (q28, false), (q26, false), (q14, false), (q13, false), (q23, false), (q15, false), (q16, true), (q3, false)]
theorem start291_yes : lawStart lawPc291 = true := by kernel_rfl
def lawPc309 : Pc := [(q9, true), (q7, false), (q8, true), (q5, false), (q0, false), (q2, true), (q39, true), (q16, false), (q3, false)]
theorem start309_yes : lawStart lawPc309 = true := by kernel_rfl
def lawPc327 : Pc := [(q9, true), (q7, false), (q8, true), (q5, false), (q0, false), (q18, false), (q11, true), (q2, false), (q39, true), (q16, false), (q3, false)]
theorem start327_yes : lawStart lawPc327 = true := by kernel_rfl
def lawPc345 : Pc := [(q9, true), (q7, false), (q8, true), (q5, false), (q0, false), (q18, false), (q12, true), (q11, false), (q2, false), (q39, true), (q16, false), (q3, false)]
theorem start345_yes : lawStart lawPc345 = true := by kernel_rfl
def lawPc363 : Pc := [(q7, true), (q8, true), (q5, false), (q0, false), (q18, false), (q40, true), (q41, true), (q12, false), (q11, false), (q2, false), (q39, true), (q16, false), (q3, false)]
theorem start363_yes : lawStart lawPc363 = true := by kernel_rfl
def lawPc381 : Pc := [(q8, false), (q5, false), (q0, false), (q44, true), (q40, false), (q41, true), (q12, false), (q11, false), (q2, false), (q39, true), (q16, false), (q3, false)]
theorem start381_yes : lawStart lawPc381 = true := by kernel_rfl
def lawPc399 : Pc := [(q42, false), (q10, false), (q9, false), (q7, false), (q8, true), (q5, false), (q0, false), (q18, true), (q47, true), (q46, false), (q44, false), (q40, false), (q41, true), (q12, false), (q11, false), (q2, false), (q39, true), (q16, false), (q3, false)]
theorem start399_yes : lawStart lawPc399 = true := by kernel_rfl
def lawPc417 : Pc := [(q7, true), (q8, true), (q5, false), (q0, false), (q48, true), (q47, false), (q46, false), (q44, false), (q40, false), (q41, true), (q12, false), (q11, false), (q2, false), (q39, true), (q16, false), (q3, false)]
theorem start417_yes : lawStart lawPc417 = true := by kernel_rfl
def lawPc435 : Pc := [(q42, false), (q10, false), (q9, false), (q7, false), (q8, true), (q5, false), (q0, false), (q48, false), (q47, false), (q46, false), (q44, false), (q40, false), (q41, true), (q12, false), (q11, false), (q2, false), (q39, true), (q16, false), (q3, false)]
theorem start435_yes : lawStart lawPc435 = true := by kernel_rfl
def lawPc453 : Pc := [(q10, true), (q9, false), (q7, false), (q8, true), (q5, false), (q0, false), (q14, true), (q13, false), (q41, false), (q12, false), (q11, false), (q2, false), (q39, true), (q16, false), (q3, false)]
theorem start453_yes : lawStart lawPc453 = true := by kernel_rfl
def lawPc471 : Pc := [(q6, false), (q4, false), (q5, true), (q0, false), (q39, false), (q16, false), (q3, false)]
theorem start471_yes : lawStart lawPc471 = true := by kernel_rfl
end
end Go.Proofs.Ythdhleaigphgeaa.Sx
