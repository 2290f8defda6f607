/- RvcApart: a part of its cases. -/
import Derived.Test.YthdhleaigphgeaaURvcApart
set_option linter.unusedVariables false
set_option linter.unusedSimpArgs false
namespace Go.Proofs.Ythdhleaigphgeaa.Sx
open Go
noncomputable section
set_option maxRecDepth 100000
def lawPc13 : Pc := [(q7, true), (q8, true), (q5, false), (q0, false), (q1, false), (q2, true), (q3, true)]
theorem start13_yes : lawStart lawPc13 = true := by kernel_rfl
def lawPc31 : Pc := [(q7, true), (q8, true), (q5, false), (q0, false), (q12, true), (q11, false), (q2, false), (q3, true)]
theorem start31_yes : lawStart lawPc31 = true := by kernel_rfl
def lawPc49 : Pc := [(q7, true), (q8, true), (q5, false), (q0, false), (q14, true), (q13, false), (q12, false), (q11, false), (q2, false), (q3, true)]
theorem start49_yes : lawStart lawPc49 = true := by kernel_rfl
def lawPc67 : Pc := [(q17, false), (q7, false), (q4, true), (q5, true), (q0, false), (q2, true), (q15, true), (q16, true), (q3, false)]
theorem start67_yes : lawStart lawPc67 = true := by kernel_rfl
def lawPc85 : Pc := [(q4, true), (q5, true), (q0, false), (q18, false), (q19, true), (q2, false), (q15, true), (q16, true), (q3, false)]
theorem start85_yes : lawStart lawPc85 = true := by kernel_rfl
def lawPc103 : Pc := [(q0, true), (q20, true), (q21, true), (q11, false), (q19, false), (q2, false), (q15, true), (q16, true), (q3, false)]
theorem start103_yes : lawStart lawPc103 = true := by kernel_rfl
def lawPc121 : Pc := [(q10, false), (q9, false), (q7, false), (q8, true), (q5, false), (q0, false), (q20, false), (q21, true), (q11, false), (q19, false), (q2, false), (q15, true), (q16, true), (q3, false)]
theorem start121_yes : lawStart lawPc121 = true := by kernel_rfl
def lawPc139 : Pc := [(q9, true), (q7, false), (q8, true), (q5, false), (q0, false), (q22, false), (q21, false), (q11, false), (q19, false), (q2, false), (q15, true), (q16, true), (q3, false)]
theorem start139_yes : lawStart lawPc139 = true := by kernel_rfl
def lawPc157 : Pc := [(q7, true), (q8, true), (q5, false), (q0, false), (q13, true), (q23, false), (q15, false), (q16, true), (q3, false)]
theorem start157_yes : lawStart lawPc157 = true := by kernel_rfl
def lawPc175 : Pc := [(q6, true), (q4, false), (q5, true), (q0, false), (q26, true), (q14, false), (q13, false), (q23, false), (q15, false), (q16, true), (q3, false)]
theorem start175_yes : lawStart lawPc175 = true := by kernel_rfl
def lawPc193 : Pc := [(q7, true), (q8, true), (q5, false), (q0, false), (q28, true), (q26, false), (q14, false), (q13, false), (q23, false), (q15, false), (q16, true), (q3, false)]
theorem start193_yes : lawStart lawPc193 = true := by kernel_rfl
def lawPc211 : Pc := [(q0, true), (q31, true), (q30, false), (q28, false), (q26, false), (q14, false), (q13, false), (q23, false), (q15, false), (q16, true), (q3, false)]
theorem start211_yes : lawStart lawPc211 = true := by kernel_rfl
def lawPc229 : Pc := [(q27, true), (q25, false), (q24, false), (q6, false), (q4, false), (q5, true), (q0, false), (q32, true), (q31, false), (q30, false), (q28, false), (q26, false), (q14, false), (q13, false), (q23, false), (q15, false), (q16, true), (q3, false)]
theorem start229_yes : lawStart lawPc229 = true := by kernel_rfl
def lawPc247 : Pc := [(q10, true), (q9, false), (q7, false), (q8, true), (q5, false), (q0, false), (q33, true), (q32, false), (q31, false), (q30, false), (q28, false), (q26, false), (q14, false), (q13, false), (q23, false), (q15, false), (q16, true), (q3, false)]
theorem start247_yes : lawStart lawPc247 = true := by kernel_rfl
def lawPc265 : Pc := [(q6, true), (q4, false), (q5, true), (q0, false), (q35, true), (q34, false), (q33, false), (q32, false), (q31, false), (q30, false), (q28, false), (q26, false), (q14, false), (q13, false), (q23, false), (q15, false), (q16, true), (q3, false)]
theorem start265_yes : lawStart lawPc265 = true := by kernel_rfl
def lawPc283 : Pc := [(q29, false), (q27, false), (q25, false), (q24, false), (q6, false), (q4, false), (q5, true), (q0, false), (q36, true), (q35, false), (q34, false), (q33, false), (q32, false), (q31, false), (q30, false), (q28, false), (q26, false), (q14, false), (q13, false), (q23, false), (q15, false), (q16, true), (q3, false)]
theorem start283_yes : lawStart lawPc283 = true := by kernel_rfl
def lawPc301 : Pc := [(q10, true), (q9, false), (q7, false), (q8, true), (q5, false), (q0, false), (q36, false), (q35, false), (q34, false), (q33, false), (q32, false), (q31, false), (q30, false), (q28, false), (q26, false), (q14, false), (q13, false), (q23, false), (q15, false), (q16, true), (q3, false)]
theorem start301_yes : lawStart lawPc301 = true := by kernel_rfl
def lawPc319 : Pc := [(q10, true), (q9, false), (q7, false), (q8, true), (q5, false), (q0, false), (q18, true), (q11, true), (q2, false), (q39, true), (q16, false), (q3, false)]
theorem start319_yes : lawStart lawPc319 = true := by kernel_rfl
def lawPc337 : Pc := [(q10, true), (q9, false), (q7, false), (q8, true), (q5, false), (q0, false), (q18, true), (q12, true), (q11, false), (q2, false), (q39, true), (q16, false), (q3, false)]
theorem start337_yes : lawStart lawPc337 = true := by kernel_rfl
def lawPc355 : Pc := [(q10, true), (q9, false), (q7, false), (q8, true), (q5, false), (q0, false), (q18, true), (q40, true), (q41, true), (q12, false), (q11, false), (q2, false), (q39, true), (q16, false), (q3, false)]
theorem start355_yes : lawStart lawPc355 = true := by kernel_rfl
def lawPc373 : Pc := [(q6, false), (q4, false), (q5, true), (q0, false), (q44, true), (q40, false), (q41, true), (q12, false), (q11, false), (q2, false), (q39, true), (q16, false), (q3, false)]
theorem start373_yes : lawStart lawPc373 = true := by kernel_rfl
def lawPc391 : Pc := [(q0, true), (q18, true), (q47, true), (q46, false), (q44, false), (q40, false), (q41, true), (q12, false), (q11, false), (q2, false), (q39, true), (q16, false), (q3, false)]
theorem start391_yes : lawStart lawPc391 = true := by kernel_rfl
def lawPc409 : Pc := [(q45, true), (q43, false), (q42, true), (q10, false), (q9, false), (q7, false), (q8, true), (q5, false), (q0, false), (q18, false), (q47, true), (q46, false), (q44, false), (q40, false), (q41, true), (q12, false), (q11, false), (q2, false), (q39, true), (q16, false), (q3, false)]
theorem start409_yes : lawStart lawPc409 = true := by kernel_rfl
def lawPc427 : Pc := [(q4, true), (q5, true), (q0, false), (q48, false), (q47, false), (q46, false), (q44, false), (q40, false), (q41, true), (q12, false), (q11, false), (q2, false), (q39, true), (q16, false), (q3, false)]
theorem start427_yes : lawStart lawPc427 = true := by kernel_rfl
def lawPc445 : Pc := [(q42, false), (q10, false), (q9, false), (q7, false), (q8, true), (q5, false), (q0, false), (q13, true), (q41, false), (q12, false), (q11, false), (q2, false), (q39, true), (q16, false), (q3, false)]
theorem start445_yes : lawStart lawPc445 = true := by kernel_rfl
def lawPc463 : Pc := [(q10, true), (q9, false), (q7, false), (q8, true), (q5, false), (q0, false), (q14, false), (q13, false), (q41, false), (q12, false), (q11, false), (q2, false), (q39, true), (q16, false), (q3, false)]
theorem start463_yes : lawStart lawPc463 = true := by kernel_rfl
end
end Go.Proofs.Ythdhleaigphgeaa.Sx
