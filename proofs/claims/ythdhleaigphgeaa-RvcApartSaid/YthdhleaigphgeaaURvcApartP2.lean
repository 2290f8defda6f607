/- RvcApart: a part of its cases. -/
import Derived.Test.YthdhleaigphgeaaURvcApart
set_option linter.unusedVariables false
set_option linter.unusedSimpArgs false
namespace Go.Proofs.Ythdhleaigphgeaa.Sx
open Go
noncomputable section
set_option maxRecDepth 100000
def lawPc2 : Pc := [(q6, true), (q4, false), (q5, true), (q0, false), (q1, true), (q2, true), (q3, true)]
theorem start2_yes : lawStart lawPc2 = true := by kernel_rfl
def lawPc20 : Pc := [(q6, true), (q4, false), (q5, true), (q0, false), (q11, true), (q2, false), (q3, true)]
theorem start20_yes : lawStart lawPc20 = true := by kernel_rfl
def lawPc38 : Pc := [(q6, true), (q4, false), (q5, true), (q0, false), (q13, true), (q12, false), (q11, false), (q2, false), (q3, true)]
theorem start38_yes : lawStart lawPc38 = true := by kernel_rfl
def lawPc56 : Pc := [(q4, true), (q5, true), (q0, false), (q14, false), (q13, false), (q12, false), (q11, false), (q2, false), (q3, true)]
theorem start56_yes : lawStart lawPc56 = true := by kernel_rfl
def lawPc74 : Pc := [(q8, false), (q5, false), (q0, false), (q2, true), (q15, true), (q16, true), (q3, false)]
theorem start74_yes : lawStart lawPc74 = true := by kernel_rfl
def lawPc92 : Pc := [(q8, false), (q5, false), (q0, false), (q18, false), (q19, true), (q2, false), (q15, true), (q16, true), (q3, false)]
theorem start92_yes : lawStart lawPc92 = true := by kernel_rfl
def lawPc110 : Pc := [(q10, false), (q9, false), (q7, false), (q8, true), (q5, false), (q0, false), (q20, true), (q21, true), (q11, false), (q19, false), (q2, false), (q15, true), (q16, true), (q3, false)]
theorem start110_yes : lawStart lawPc110 = true := by kernel_rfl
def lawPc128 : Pc := [(q9, true), (q7, false), (q8, true), (q5, false), (q0, false), (q22, true), (q21, false), (q11, false), (q19, false), (q2, false), (q15, true), (q16, true), (q3, false)]
theorem start128_yes : lawStart lawPc128 = true := by kernel_rfl
def lawPc146 : Pc := [(q6, false), (q4, false), (q5, true), (q0, false), (q23, true), (q15, false), (q16, true), (q3, false)]
theorem start146_yes : lawStart lawPc146 = true := by kernel_rfl
def lawPc164 : Pc := [(q6, true), (q4, false), (q5, true), (q0, false), (q14, true), (q13, false), (q23, false), (q15, false), (q16, true), (q3, false)]
theorem start164_yes : lawStart lawPc164 = true := by kernel_rfl
def lawPc182 : Pc := [(q10, true), (q9, false), (q7, false), (q8, true), (q5, false), (q0, false), (q26, true), (q14, false), (q13, false), (q23, false), (q15, false), (q16, true), (q3, false)]
theorem start182_yes : lawStart lawPc182 = true := by kernel_rfl
def lawPc200 : Pc := [(q6, true), (q4, false), (q5, true), (q0, false), (q30, true), (q28, false), (q26, false), (q14, false), (q13, false), (q23, false), (q15, false), (q16, true), (q3, false)]
theorem start200_yes : lawStart lawPc200 = true := by kernel_rfl
def lawPc218 : Pc := [(q29, false), (q27, false), (q25, false), (q24, false), (q6, false), (q4, false), (q5, true), (q0, false), (q31, true), (q30, false), (q28, false), (q26, false), (q14, false), (q13, false), (q23, false), (q15, false), (q16, true), (q3, false)]
theorem start218_yes : lawStart lawPc218 = true := by kernel_rfl
def lawPc236 : Pc := [(q8, false), (q5, false), (q0, false), (q32, true), (q31, false), (q30, false), (q28, false), (q26, false), (q14, false), (q13, false), (q23, false), (q15, false), (q16, true), (q3, false)]
theorem start236_yes : lawStart lawPc236 = true := by kernel_rfl
def lawPc254 : Pc := [(q25, true), (q24, false), (q6, false), (q4, false), (q5, true), (q0, false), (q34, true), (q33, false), (q32, false), (q31, false), (q30, false), (q28, false), (q26, false), (q14, false), (q13, false), (q23, false), (q15, false), (q16, true), (q3, false)]
theorem start254_yes : lawStart lawPc254 = true := by kernel_rfl
def lawPc272 : Pc := [(q9, true), (q7, false), (q8, true), (q5, false), (q0, false), (q35, true), (q34, false), (q33, false), (q32, false), (q31, false), (q30, false), (q28, false), (q26, false), (q14, false), (q13, false), (q23, false), (q15, false), (q16, true), (q3, false)]
theorem start272_yes : lawStart lawPc272 = true := by kernel_rfl
def lawPc290 : Pc := [(q4, true), (q5, true), (q0, false), (q36, false), (q35, false), (q34, false), (q33, false), (q32, false), (q31, false), (q30, false), (q28, false), (q26, false), (q14, false), (q13, false), (q23, false), (q15, false), (q16, true), (q3, false)]
theorem start290_yes : lawStart lawPc290 = true := by kernel_rfl
def lawPc308 : Pc := [(q7, true), (q8, true), (q5, false), (q0, false), (q2, true), (q39, true), (q16, false), (q3, false)]
theorem start308_yes : lawStart lawPc308 = true := by kernel_rfl
def lawPc326 : Pc := [(q7, true), (q8, true), (q5, false), (q0, false), (q18, false), (q11, true), (q2, false), (q39, true), (q16, false), (q3, false)]
theorem start326_yes : lawStart lawPc326 = true := by kernel_rfl
def lawPc344 : Pc := [(q7, true), (q8, true), (q5, false), (q0, false), (q18, false), (q12, true), (q11, false), (q2, false), (q39, true), (q16, false), (q3, false)]
theorem start344_yes : lawStart lawPc344 = true := by kernel_rfl
def lawPc362 : Pc := [(q6, false), (q4, false), (q5, true), (q0, false), (q18, false), (q40, true), (q41, true), (q12, false), (q11, false), (q2, false), (q39, true), (q16, false), (q3, false)]
theorem start362_yes : lawStart lawPc362 = true := by kernel_rfl
def lawPc380 : Pc := [(q42, false), (q10, false), (q9, false), (q7, false), (q8, true), (q5, false), (q0, false), (q44, true), (q40, false), (q41, true), (q12, false), (q11, false), (q2, false), (q39, true), (q16, false), (q3, false)]
theorem start380_yes : lawStart lawPc380 = true := by kernel_rfl
def lawPc398 : Pc := [(q42, true), (q10, false), (q9, false), (q7, false), (q8, true), (q5, false), (q0, false), (q18, true), (q47, true), (q46, false), (q44, false), (q40, false), (q41, true), (q12, false), (q11, false), (q2, false), (q39, true), (q16, false), (q3, false)]
theorem start398_yes : lawStart lawPc398 = true := by kernel_rfl
def lawPc416 : Pc := [(q6, false), (q4, false), (q5, true), (q0, false), (q48, true), (q47, false), (q46, false), (q44, false), (q40, false), (q41, true), (q12, false), (q11, false), (q2, false), (q39, true), (q16, false), (q3, false)]
theorem start416_yes : lawStart lawPc416 = true := by kernel_rfl
def lawPc434 : Pc := [(q43, false), (q42, true), (q10, false), (q9, false), (q7, false), (q8, true), (q5, false), (q0, false), (q48, false), (q47, false), (q46, false), (q44, false), (q40, false), (q41, true), (q12, false), (q11, false), (q2, false), (q39, true), (q16, false), (q3, false)]
theorem start434_yes : lawStart lawPc434 = true := by kernel_rfl
def lawPc452 : Pc := [(q9, true), (q7, false), (q8, true), (q5, false), (q0, false), (q14, true), (q13, false), (q41, false), (q12, false), (q11, false), (q2, false), (q39, true), (q16, false), (q3, false)]
theorem start452_yes : lawStart lawPc452 = true := by kernel_rfl
def lawPc470 : Pc := [(q6, true), (q4, false), (q5, true), (q0, false), (q39, false), (q16, false), (q3, false)]
theorem start470_yes : lawStart lawPc470 = true := by kernel_rfl
end
end Go.Proofs.Ythdhleaigphgeaa.Sx
