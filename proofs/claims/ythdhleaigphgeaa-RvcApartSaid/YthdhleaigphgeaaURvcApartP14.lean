/- RvcApart: a part of its cases. -/
import Derived.Test.YthdhleaigphgeaaURvcApart
set_option linter.unusedVariables false
set_option linter.unusedSimpArgs false
namespace Go.Proofs.Ythdhleaigphgeaa.Sx
open Go
noncomputable section
set_option maxRecDepth 100000
def lawPc14 : Pc := [(q9, true), (q7, false), (q8, true), (q5, false), (q0, false), (q1, false), (q2, true), (q3, true)]
theorem start14_yes : lawStart lawPc14 = true := by kernel_rfl
def lawPc32 : Pc := [(q9, true), (q7, false), (q8, true), (q5, false), (q0, false), (q12, true), (q11, false), (q2, false), (q3, true)]
theorem start32_yes : lawStart lawPc32 = true := by kernel_rfl
def lawPc50 : Pc := [(q9, true), (q7, false), (q8, true), (q5, false), (q0, false), (q14, true), (q13, false), (q12, false), (q11, false), (q2, false), (q3, true)]
theorem start50_yes : lawStart lawPc50 = true := by kernel_rfl
def lawPc68 : Pc := [(q6, true), (q4, false), (q5, true), (q0, false), (q2, true), (q15, true), (q16, true), (q3, false)]
theorem start68_yes : lawStart lawPc68 = true := by kernel_rfl
def lawPc86 : Pc := [(q6, true), (q4, false), (q5, true), (q0, false), (q18, false), (q19, true), (q2, false), (q15, true), (q16, true), (q3, false)]
theorem start86_yes : lawStart lawPc86 = true := by kernel_rfl
def lawPc104 : Pc := [(q4, true), (q5, true), (q0, false), (q20, true), (q21, true), (q11, false), (q19, false), (q2, false), (q15, true), (q16, true), (q3, false)]
theorem start104_yes : lawStart lawPc104 = true := by kernel_rfl
def lawPc122 : Pc := [(q8, false), (q5, false), (q0, false), (q20, false), (q21, true), (q11, false), (q19, false), (q2, false), (q15, true), (q16, true), (q3, false)]
theorem start122_yes : lawStart lawPc122 = true := by kernel_rfl
def lawPc140 : Pc := [(q10, true), (q9, false), (q7, false), (q8, true), (q5, false), (q0, false), (q22, false), (q21, false), (q11, false), (q19, false), (q2, false), (q15, true), (q16, true), (q3, false)]
theorem start140_yes : lawStart lawPc140 = true := by kernel_rfl
def lawPc158 : Pc := [(q9, true), (q7, false), (q8, true), (q5, false), (q0, false), (q13, true), (q23, false), (q15, false), (q16, true), (q3, false)]
theorem start158_yes : lawStart lawPc158 = true := by kernel_rfl
def lawPc176 : Pc := [(q24, true), (q6, false), (q4, false), (q5, true), (q0, false), (q26, true), (q14, false), (q13, false), (q23, false), (q15, false), (q16, true), (q3, false)]
theorem start176_yes : lawStart lawPc176 = true := by kernel_rfl
def lawPc194 : Pc := [(q9, true), (q7, false), (q8, true), (q5, false), (q0, false), (q28, true), (q26, false), (q14, false), (q13, false), (q23, false), (q15, false), (q16, true), (q3, false)]
theorem start194_yes : lawStart lawPc194 = true := by kernel_rfl
def lawPc212 : Pc := [(q4, true), (q5, true), (q0, false), (q31, true), (q30, false), (q28, false), (q26, false), (q14, false), (q13, false), (q23, false), (q15, false), (q16, true), (q3, false)]
theorem start212_yes : lawStart lawPc212 = true := by kernel_rfl
def lawPc230 : Pc := [(q29, true), (q27, false), (q25, false), (q24, false), (q6, false), (q4, false), (q5, true), (q0, false), (q32, true), (q31, false), (q30, false), (q28, false), (q26, false), (q14, false), (q13, false), (q23, false), (q15, false), (q16, true), (q3, false)]
theorem start230_yes : lawStart lawPc230 = true := by kernel_rfl
def lawPc248 : Pc := [(q10, false), (q9, false), (q7, false), (q8, true), (q5, false), (q0, false), (q33, true), (q32, false), (q31, false), (q30, false), (q28, false), (q26, false), (q14, false), (q13, false), (q23, false), (q15, false), (q16, true), (q3, false)]
theorem start248_yes : lawStart lawPc248 = true := by kernel_rfl
def lawPc266 : Pc := [(q24, true), (q6, false), (q4, false), (q5, true), (q0, false), (q35, true), (q34, false), (q33, false), (q32, false), (q31, false), (q30, false), (q28, false), (q26, false), (q14, false), (q13, false), (q23, false), (q15, false), (q16, true), (q3, false)]
theorem start266_yes : lawStart lawPc266 = true := by kernel_rfl
def lawPc284 : Pc := [(q7, true), (q8, true), (q5, false), (q0, false), (q36, true), (q35, false), (q34, false), (q33, false), (q32, false), (q31, false), (q30, false), (q28, false), (q26, false), (q14, false), (q13, false), (q23, false), (q15, false), (q16, true), (q3, false)]
theorem start284_yes : lawStart lawPc284 = true := by kernel_rfl
def lawPc302 : Pc := [(q10, false), (q9, false), (q7, false), (q8, true), (q5, false), (q0, false), (q36, false), (q35, false), (q34, false), (q33, false), (q32, false), (q31, false), (q30, false), (q28, false), (q26, false), (q14, false), (q13, false), (q23, false), (q15, false), (q16, true), (q3, false)]
theorem start302_yes : lawStart lawPc302 = true := by kernel_rfl
def lawPc320 : Pc := [(q10, false), (q9, false), (q7, false), (q8, true), (q5, false), (q0, false), (q18, true), (q11, true), (q2, false), (q39, true), (q16, false), (q3, false)]
theorem start320_yes : lawStart lawPc320 = true := by kernel_rfl
def lawPc338 : Pc := [(q10, false), (q9, false), (q7, false), (q8, true), (q5, false), (q0, false), (q18, true), (q12, true), (q11, false), (q2, false), (q39, true), (q16, false), (q3, false)]
theorem start338_yes : lawStart lawPc338 = true := by kernel_rfl
def lawPc356 : Pc := [(q42, true), (q10, false), (q9, false), (q7, false), (q8, true), (q5, false), (q0, false), (q18, true), (q40, true), (q41, true), (q12, false), (q11, false), (q2, false), (q39, true), (q16, false), (q3, false)]
theorem start356_yes : lawStart lawPc356 = true := by kernel_rfl
def lawPc374 : Pc := [(q7, true), (q8, true), (q5, false), (q0, false), (q44, true), (q40, false), (q41, true), (q12, false), (q11, false), (q2, false), (q39, true), (q16, false), (q3, false)]
theorem start374_yes : lawStart lawPc374 = true := by kernel_rfl
def lawPc392 : Pc := [(q4, true), (q5, true), (q0, false), (q18, true), (q47, true), (q46, false), (q44, false), (q40, false), (q41, true), (q12, false), (q11, false), (q2, false), (q39, true), (q16, false), (q3, false)]
theorem start392_yes : lawStart lawPc392 = true := by kernel_rfl
def lawPc410 : Pc := [(q45, false), (q43, false), (q42, true), (q10, false), (q9, false), (q7, false), (q8, true), (q5, false), (q0, false), (q18, false), (q47, true), (q46, false), (q44, false), (q40, false), (q41, true), (q12, false), (q11, false), (q2, false), (q39, true), (q16, false), (q3, false)]
theorem start410_yes : lawStart lawPc410 = true := by kernel_rfl
def lawPc428 : Pc := [(q6, true), (q4, false), (q5, true), (q0, false), (q48, false), (q47, false), (q46, false), (q44, false), (q40, false), (q41, true), (q12, false), (q11, false), (q2, false), (q39, true), (q16, false), (q3, false)]
theorem start428_yes : lawStart lawPc428 = true := by kernel_rfl
def lawPc446 : Pc := [(q8, false), (q5, false), (q0, false), (q13, true), (q41, false), (q12, false), (q11, false), (q2, false), (q39, true), (q16, false), (q3, false)]
theorem start446_yes : lawStart lawPc446 = true := by kernel_rfl
def lawPc464 : Pc := [(q43, true), (q42, true), (q10, false), (q9, false), (q7, false), (q8, true), (q5, false), (q0, false), (q14, false), (q13, false), (q41, false), (q12, false), (q11, false), (q2, false), (q39, true), (q16, false), (q3, false)]
theorem start464_yes : lawStart lawPc464 = true := by kernel_rfl
end
end Go.Proofs.Ythdhleaigphgeaa.Sx
