/- RvcApart: a part of its cases. -/
import Derived.Test.YthdhleaigphgeaaURvcApart
set_option linter.unusedVariables false
set_option linter.unusedSimpArgs false
namespace Go.Proofs.Ythdhleaigphgeaa.Sx
open Go
noncomputable section
set_option maxRecDepth 100000
def lawPc16 : Pc := [(q10, false), (q9, false), (q7, false), (q8, true), (q5, false), (q0, false), (q1, false), (q2, true), (q3, true)]
theorem start16_yes : lawStart lawPc16 = true := by kernel_rfl
def lawPc34 : Pc := [(q10, false), (q9, false), (q7, false), (q8, true), (q5, false), (q0, false), (q12, true), (q11, false), (q2, false), (q3, true)]
theorem start34_yes : lawStart lawPc34 = true := by kernel_rfl
def lawPc52 : Pc := [(q10, false), (q9, false), (q7, false), (q8, true), (q5, false), (q0, false), (q14, true), (q13, false), (q12, false), (q11, false), (q2, false), (q3, true)]
theorem start52_yes : lawStart lawPc52 = true := by kernel_rfl
def lawPc70 : Pc := [(q7, true), (q8, true), (q5, false), (q0, false), (q2, true), (q15, true), (q16, true), (q3, false)]
theorem start70_yes : lawStart lawPc70 = true := by kernel_rfl
def lawPc88 : Pc := [(q7, true), (q8, true), (q5, false), (q0, false), (q18, false), (q19, true), (q2, false), (q15, true), (q16, true), (q3, false)]
theorem start88_yes : lawStart lawPc88 = true := by kernel_rfl
def lawPc106 : Pc := [(q6, false), (q4, false), (q5, true), (q0, false), (q20, true), (q21, true), (q11, false), (q19, false), (q2, false), (q15, true), (q16, true), (q3, false)]
theorem start106_yes : lawStart lawPc106 = true := by kernel_rfl
def lawPc124 : Pc := [(q4, true), (q5, true), (q0, false), (q22, true), (q21, false), (q11, false), (q19, false), (q2, false), (q15, true), (q16, true), (q3, false)]
theorem start124_yes : lawStart lawPc124 = true := by kernel_rfl
def lawPc142 : Pc := [(q8, false), (q5, false), (q0, false), (q22, false), (q21, false), (q11, false), (q19, false), (q2, false), (q15, true), (q16, true), (q3, false)]
theorem start142_yes : lawStart lawPc142 = true := by kernel_rfl
def lawPc160 : Pc := [(q10, false), (q9, false), (q7, false), (q8, true), (q5, false), (q0, false), (q13, true), (q23, false), (q15, false), (q16, true), (q3, false)]
theorem start160_yes : lawStart lawPc160 = true := by kernel_rfl
def lawPc178 : Pc := [(q27, true), (q25, false), (q24, false), (q6, false), (q4, false), (q5, true), (q0, false), (q26, true), (q14, false), (q13, false), (q23, false), (q15, false), (q16, true), (q3, false)]
theorem start178_yes : lawStart lawPc178 = true := by kernel_rfl
def lawPc196 : Pc := [(q10, false), (q9, false), (q7, false), (q8, true), (q5, false), (q0, false), (q28, true), (q26, false), (q14, false), (q13, false), (q23, false), (q15, false), (q16, true), (q3, false)]
theorem start196_yes : lawStart lawPc196 = true := by kernel_rfl
def lawPc214 : Pc := [(q24, true), (q6, false), (q4, false), (q5, true), (q0, false), (q31, true), (q30, false), (q28, false), (q26, false), (q14, false), (q13, false), (q23, false), (q15, false), (q16, true), (q3, false)]
theorem start214_yes : lawStart lawPc214 = true := by kernel_rfl
def lawPc232 : Pc := [(q7, true), (q8, true), (q5, false), (q0, false), (q32, true), (q31, false), (q30, false), (q28, false), (q26, false), (q14, false), (q13, false), (q23, false), (q15, false), (q16, true), (q3, false)]
theorem start232_yes : lawStart lawPc232 = true := by kernel_rfl
def lawPc250 : Pc := [(q0, true), (q34, true), (q33, false), (q32, false), (q31, false), (q30, false), (q28, false), (q26, false), (q14, false), (q13, false), (q23, false), (q15, false), (q16, true), (q3, false)]
theorem start250_yes : lawStart lawPc250 = true := by kernel_rfl
def lawPc268 : Pc := [(q27, true), (q25, false), (q24, false), (q6, false), (q4, false), (q5, true), (q0, false), (q35, true), (q34, false), (q33, false), (q32, false), (q31, false), (q30, false), (q28, false), (q26, false), (q14, false), (q13, false), (q23, false), (q15, false), (q16, true), (q3, false)]
theorem start268_yes : lawStart lawPc268 = true := by kernel_rfl
def lawPc286 : Pc := [(q10, true), (q9, false), (q7, false), (q8, true), (q5, false), (q0, false), (q36, true), (q35, false), (q34, false), (q33, false), (q32, false), (q31, false), (q30, false), (q28, false), (q26, false), (q14, false), (q13, false), (q23, false), (q15, false), (q16, true), (q3, false)]
theorem start286_yes : lawStart lawPc286 = true := by kernel_rfl
def lawPc304 : Pc := [(q0, true), (q2, true), (q39, true), (q16, false), (q3, false)]
theorem start304_yes : lawStart lawPc304 = true := by kernel_rfl
def lawPc322 : Pc := [(q0, true), (q18, false), (q11, true), (q2, false), (q39, true), (q16, false), (q3, false)]
theorem start322_yes : lawStart lawPc322 = true := by kernel_rfl
def lawPc340 : Pc := [(q0, true), (q18, false), (q12, true), (q11, false), (q2, false), (q39, true), (q16, false), (q3, false)]
theorem start340_yes : lawStart lawPc340 = true := by kernel_rfl
def lawPc358 : Pc := [(q8, false), (q5, false), (q0, false), (q18, true), (q40, true), (q41, true), (q12, false), (q11, false), (q2, false), (q39, true), (q16, false), (q3, false)]
theorem start358_yes : lawStart lawPc358 = true := by kernel_rfl
def lawPc376 : Pc := [(q10, true), (q9, false), (q7, false), (q8, true), (q5, false), (q0, false), (q44, true), (q40, false), (q41, true), (q12, false), (q11, false), (q2, false), (q39, true), (q16, false), (q3, false)]
theorem start376_yes : lawStart lawPc376 = true := by kernel_rfl
def lawPc394 : Pc := [(q6, false), (q4, false), (q5, true), (q0, false), (q18, true), (q47, true), (q46, false), (q44, false), (q40, false), (q41, true), (q12, false), (q11, false), (q2, false), (q39, true), (q16, false), (q3, false)]
theorem start394_yes : lawStart lawPc394 = true := by kernel_rfl
def lawPc412 : Pc := [(q8, false), (q5, false), (q0, false), (q18, false), (q47, true), (q46, false), (q44, false), (q40, false), (q41, true), (q12, false), (q11, false), (q2, false), (q39, true), (q16, false), (q3, false)]
theorem start412_yes : lawStart lawPc412 = true := by kernel_rfl
def lawPc430 : Pc := [(q7, true), (q8, true), (q5, false), (q0, false), (q48, false), (q47, false), (q46, false), (q44, false), (q40, false), (q41, true), (q12, false), (q11, false), (q2, false), (q39, true), (q16, false), (q3, false)]
theorem start430_yes : lawStart lawPc430 = true := by kernel_rfl
def lawPc448 : Pc := [(q4, true), (q5, true), (q0, false), (q14, true), (q13, false), (q41, false), (q12, false), (q11, false), (q2, false), (q39, true), (q16, false), (q3, false)]
theorem start448_yes : lawStart lawPc448 = true := by kernel_rfl
def lawPc466 : Pc := [(q42, false), (q10, false), (q9, false), (q7, false), (q8, true), (q5, false), (q0, false), (q14, false), (q13, false), (q41, false), (q12, false), (q11, false), (q2, false), (q39, true), (q16, false), (q3, false)]
theorem start466_yes : lawStart lawPc466 = true := by kernel_rfl
end
end Go.Proofs.Ythdhleaigphgeaa.Sx
