/- RvcApart: a part of its cases. -/
import Derived.Test.YthdhleaigphgeaaURvcApart
set_option linter.unusedVariables false
set_option linter.unusedSimpArgs false
namespace Go.Proofs.Ythdhleaigphgeaa.Sx
open Go
noncomputable section
set_option maxRecDepth 100000
def lawPc4 : Pc := [(q7, true), (q8, true), (q5, false), (q0, false), (q1, true), (q2, true), (q3, true)]
theorem start4_yes : lawStart lawPc4 = true := by kernel_rfl
def lawPc22 : Pc := [(q7, true), (q8, true), (q5, false), (q0, false), (q11, true), (q2, false), (q3, true)]
theorem start22_yes : lawStart lawPc22 = true := by kernel_rfl
def lawPc40 : Pc := [(q7, true), (q8, true), (q5, false), (q0, false), (q13, true), (q12, false), (q11, false), (q2, false), (q3, true)]
theorem start40_yes : lawStart lawPc40 = true := by kernel_rfl
def lawPc58 : Pc := [(q6, false), (q4, false), (q5, true), (q0, false), (q14, false), (q13, false), (q12, false), (q11, false), (q2, false), (q3, true)]
theorem start58_yes : lawStart lawPc58 = true := by kernel_rfl
def lawPc76 : Pc := [(q4, true), (q5, true), (q0, false), (q18, true), (q19, true), (q2, false), (q15, true), (q16, true), (q3, false)]
theorem start76_yes : lawStart lawPc76 = true := by kernel_rfl
def lawPc94 : Pc := [(q7, true), (q4, true), (q5, true), (q0, false), (q11, true), (q19, false), (q2, false), (q15, true), (q16, true), (q3, false)]
theorem start94_yes : lawStart lawPc94 = true := by kernel_rfl
def lawPc112 : Pc := [(q0, true), (q20, false), (q21, true), (q11, false), (q19, false), (q2, false), (q15, true), (q16, true), (q3, false)]
theorem start112_yes : lawStart lawPc112 = true := by kernel_rfl
def lawPc130 : Pc := [(q10, false), (q9, false), (q7, false), (q8, true), (q5, false), (q0, false), (q22, true), (q21, false), (q11, false), (q19, false), (q2, false), (q15, true), (q16, true), (q3, false)]
theorem start130_yes : lawStart lawPc130 = true := by kernel_rfl
def lawPc148 : Pc := [(q9, true), (q7, false), (q8, true), (q5, false), (q0, false), (q23, true), (q15, false), (q16, true), (q3, false)]
theorem start148_yes : lawStart lawPc148 = true := by kernel_rfl
def lawPc166 : Pc := [(q25, true), (q24, false), (q6, false), (q4, false), (q5, true), (q0, false), (q14, true), (q13, false), (q23, false), (q15, false), (q16, true), (q3, false)]
theorem start166_yes : lawStart lawPc166 = true := by kernel_rfl
def lawPc184 : Pc := [(q8, false), (q5, false), (q0, false), (q26, true), (q14, false), (q13, false), (q23, false), (q15, false), (q16, true), (q3, false)]
theorem start184_yes : lawStart lawPc184 = true := by kernel_rfl
def lawPc202 : Pc := [(q25, true), (q24, false), (q6, false), (q4, false), (q5, true), (q0, false), (q30, true), (q28, false), (q26, false), (q14, false), (q13, false), (q23, false), (q15, false), (q16, true), (q3, false)]
theorem start202_yes : lawStart lawPc202 = true := by kernel_rfl
def lawPc220 : Pc := [(q9, true), (q7, false), (q8, true), (q5, false), (q0, false), (q31, true), (q30, false), (q28, false), (q26, false), (q14, false), (q13, false), (q23, false), (q15, false), (q16, true), (q3, false)]
theorem start220_yes : lawStart lawPc220 = true := by kernel_rfl
def lawPc238 : Pc := [(q4, true), (q5, true), (q0, false), (q33, true), (q32, false), (q31, false), (q30, false), (q28, false), (q26, false), (q14, false), (q13, false), (q23, false), (q15, false), (q16, true), (q3, false)]
theorem start238_yes : lawStart lawPc238 = true := by kernel_rfl
def lawPc256 : Pc := [(q29, true), (q27, false), (q25, false), (q24, false), (q6, false), (q4, false), (q5, true), (q0, false), (q34, true), (q33, false), (q32, false), (q31, false), (q30, false), (q28, false), (q26, false), (q14, false), (q13, false), (q23, false), (q15, false), (q16, true), (q3, false)]
theorem start256_yes : lawStart lawPc256 = true := by kernel_rfl
def lawPc274 : Pc := [(q10, false), (q9, false), (q7, false), (q8, true), (q5, false), (q0, false), (q35, true), (q34, false), (q33, false), (q32, false), (q31, false), (q30, false), (q28, false), (q26, false), (q14, false), (q13, false), (q23, false), (q15, false), (q16, true), (q3, false)]
theorem start274_yes : lawStart lawPc274 = true := by kernel_rfl
def lawPc292 : Pc := [(q24, true), (q6, false), (q4, false), (q5, true), (q0, false), (q36, false), (q35, false), (q34, false), (q33, false), (q32, false), (q31, false), (q30, false), (q28, false), (q26, false), (q14, false), (q13, false), (q23, false), (q15, false), (q16, true), (q3, false)]
theorem start292_yes : lawStart lawPc292 = true := by kernel_rfl
def lawPc310 : Pc := [(q10, true), (q9, false), (q7, false), (q8, true), (q5, false), (q0, false), (q2, true), (q39, true), (q16, false), (q3, false)]
theorem start310_yes : lawStart lawPc310 = true := by kernel_rfl
def lawPc328 : Pc := [(q10, true), (q9, false), (q7, false), (q8, true), (q5, false), (q0, false), (q18, false), (q11, true), (q2, false), (q39, true), (q16, false), (q3, false)]
theorem start328_yes : lawStart lawPc328 = true := by kernel_rfl
def lawPc346 : Pc := [(q10, true), (q9, false), (q7, false), (q8, true), (q5, false), (q0, false), (q18, false), (q12, true), (q11, false), (q2, false), (q39, true), (q16, false), (q3, false)]
theorem start346_yes : lawStart lawPc346 = true := by kernel_rfl
def lawPc364 : Pc := [(q9, true), (q7, false), (q8, true), (q5, false), (q0, false), (q18, false), (q40, true), (q41, true), (q12, false), (q11, false), (q2, false), (q39, true), (q16, false), (q3, false)]
theorem start364_yes : lawStart lawPc364 = true := by kernel_rfl
def lawPc382 : Pc := [(q0, true), (q46, true), (q44, false), (q40, false), (q41, true), (q12, false), (q11, false), (q2, false), (q39, true), (q16, false), (q3, false)]
theorem start382_yes : lawStart lawPc382 = true := by kernel_rfl
def lawPc400 : Pc := [(q8, false), (q5, false), (q0, false), (q18, true), (q47, true), (q46, false), (q44, false), (q40, false), (q41, true), (q12, false), (q11, false), (q2, false), (q39, true), (q16, false), (q3, false)]
theorem start400_yes : lawStart lawPc400 = true := by kernel_rfl
def lawPc418 : Pc := [(q9, true), (q7, false), (q8, true), (q5, false), (q0, false), (q48, true), (q47, false), (q46, false), (q44, false), (q40, false), (q41, true), (q12, false), (q11, false), (q2, false), (q39, true), (q16, false), (q3, false)]
theorem start418_yes : lawStart lawPc418 = true := by kernel_rfl
def lawPc436 : Pc := [(q8, false), (q5, false), (q0, false), (q48, false), (q47, false), (q46, false), (q44, false), (q40, false), (q41, true), (q12, false), (q11, false), (q2, false), (q39, true), (q16, false), (q3, false)]
theorem start436_yes : lawStart lawPc436 = true := by kernel_rfl
def lawPc454 : Pc := [(q42, true), (q10, false), (q9, false), (q7, false), (q8, true), (q5, false), (q0, false), (q14, true), (q13, false), (q41, false), (q12, false), (q11, false), (q2, false), (q39, true), (q16, false), (q3, false)]
theorem start454_yes : lawStart lawPc454 = true := by kernel_rfl
def lawPc472 : Pc := [(q7, true), (q8, true), (q5, false), (q0, false), (q39, false), (q16, false), (q3, false)]
theorem start472_yes : lawStart lawPc472 = true := by kernel_rfl
end
end Go.Proofs.Ythdhleaigphgeaa.Sx
