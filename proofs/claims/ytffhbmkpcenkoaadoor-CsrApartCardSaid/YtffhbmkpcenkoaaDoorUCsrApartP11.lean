/- CsrApart: a part of its cases. -/
import Derived.Test.YtffhbmkpcenkoaaDoorUCsrApart
set_option linter.unusedVariables false
set_option linter.unusedSimpArgs false
namespace Go.Proofs.YtffhbmkpcenkoaaDoor.Sx
open Go
noncomputable section
set_option maxRecDepth 100000
def lawPc11 : Pc := [(q7, false), (q1, false), (q2, true), (q11, true), (q3, false), (q4, true), (q5, true), (q6, true)]
theorem start11_yes : lawStart3 lawPc11 = true := by kernel_rfl
def lawPc23 : Pc := [(q10, true), (q9, false), (q2, false), (q12, true), (q4, false), (q5, true), (q6, true)]
theorem start23_yes : lawStart6 lawPc23 = true := by kernel_rfl
def lawPc35 : Pc := [(q7, true), (q1, false), (q2, true), (q15, true), (q13, false), (q14, true), (q12, false), (q4, false), (q5, true), (q6, true)]
theorem start35_yes : lawStart2 lawPc35 = true := by kernel_rfl
def lawPc47 : Pc := [(q10, true), (q9, false), (q2, false), (q16, true), (q15, false), (q13, false), (q14, true), (q12, false), (q4, false), (q5, true), (q6, true)]
theorem start47_yes : lawStart6 lawPc47 = true := by kernel_rfl
def lawPc59 : Pc := [(q0, false), (q1, true), (q2, true), (q17, true), (q18, true), (q19, true), (q5, false), (q6, true)]
theorem start59_yes : lawStart1 lawPc59 = true := by kernel_rfl
def lawPc71 : Pc := [(q8, false), (q9, true), (q2, false), (q20, true), (q17, false), (q18, true), (q19, true), (q5, false), (q6, true)]
theorem start71_yes : lawStart5 lawPc71 = true := by kernel_rfl
def lawPc83 : Pc := [(q0, false), (q1, true), (q2, true), (q22, true), (q21, false), (q20, false), (q17, false), (q18, true), (q19, true), (q5, false), (q6, true)]
theorem start83_yes : lawStart1 lawPc83 = true := by kernel_rfl
def lawPc95 : Pc := [(q8, false), (q9, true), (q2, false), (q23, true), (q22, false), (q21, false), (q20, false), (q17, false), (q18, true), (q19, true), (q5, false), (q6, true)]
theorem start95_yes : lawStart5 lawPc95 = true := by kernel_rfl
def lawPc107 : Pc := [(q0, true), (q1, true), (q2, true), (q25, true), (q24, false), (q18, false), (q19, true), (q5, false), (q6, true)]
theorem start107_yes : lawStart0 lawPc107 = true := by kernel_rfl
def lawPc119 : Pc := [(q7, false), (q1, false), (q2, true), (q26, true), (q19, false), (q5, false), (q6, true)]
theorem start119_yes : lawStart3 lawPc119 = true := by kernel_rfl
def lawPc131 : Pc := [(q10, false), (q9, false), (q2, false), (q27, true), (q28, true), (q26, false), (q19, false), (q5, false), (q6, true)]
theorem start131_yes : lawStart7 lawPc131 = true := by kernel_rfl
def lawPc143 : Pc := [(q7, false), (q1, false), (q2, true), (q30, true), (q29, false), (q27, false), (q28, true), (q26, false), (q19, false), (q5, false), (q6, true)]
theorem start143_yes : lawStart3 lawPc143 = true := by kernel_rfl
def lawPc155 : Pc := [(q10, false), (q9, false), (q2, false), (q31, true), (q30, false), (q29, false), (q27, false), (q28, true), (q26, false), (q19, false), (q5, false), (q6, true)]
theorem start155_yes : lawStart7 lawPc155 = true := by kernel_rfl
def lawPc167 : Pc := [(q7, false), (q1, false), (q2, true), (q33, true), (q32, false), (q31, false), (q30, false), (q29, false), (q27, false), (q28, true), (q26, false), (q19, false), (q5, false), (q6, true)]
theorem start167_yes : lawStart3 lawPc167 = true := by kernel_rfl
def lawPc179 : Pc := [(q10, false), (q9, false), (q2, false), (q34, true), (q33, false), (q32, false), (q31, false), (q30, false), (q29, false), (q27, false), (q28, true), (q26, false), (q19, false), (q5, false), (q6, true)]
theorem start179_yes : lawStart7 lawPc179 = true := by kernel_rfl
def lawPc191 : Pc := [(q7, true), (q1, false), (q2, true), (q35, true), (q36, true), (q37, true), (q38, true), (q6, false)]
theorem start191_yes : lawStart2 lawPc191 = true := by kernel_rfl
def lawPc203 : Pc := [(q10, true), (q9, false), (q2, false), (q39, true), (q35, false), (q36, true), (q37, true), (q38, true), (q6, false)]
theorem start203_yes : lawStart6 lawPc203 = true := by kernel_rfl
def lawPc215 : Pc := [(q7, true), (q1, false), (q2, true), (q41, true), (q40, false), (q39, false), (q35, false), (q36, true), (q37, true), (q38, true), (q6, false)]
theorem start215_yes : lawStart2 lawPc215 = true := by kernel_rfl
def lawPc227 : Pc := [(q10, true), (q9, false), (q2, false), (q42, true), (q41, false), (q40, false), (q39, false), (q35, false), (q36, true), (q37, true), (q38, true), (q6, false)]
theorem start227_yes : lawStart6 lawPc227 = true := by kernel_rfl
def lawPc239 : Pc := [(q0, false), (q1, true), (q2, true), (q44, true), (q43, false), (q36, false), (q37, true), (q38, true), (q6, false)]
theorem start239_yes : lawStart1 lawPc239 = true := by kernel_rfl
def lawPc251 : Pc := [(q8, true), (q9, true), (q2, false), (q45, true), (q37, false), (q38, true), (q6, false)]
theorem start251_yes : lawStart4 lawPc251 = true := by kernel_rfl
def lawPc263 : Pc := [(q0, true), (q1, true), (q2, true), (q48, true), (q46, false), (q47, true), (q45, false), (q37, false), (q38, true), (q6, false)]
theorem start263_yes : lawStart0 lawPc263 = true := by kernel_rfl
def lawPc275 : Pc := [(q8, true), (q9, true), (q2, false), (q49, true), (q48, false), (q46, false), (q47, true), (q45, false), (q37, false), (q38, true), (q6, false)]
theorem start275_yes : lawStart4 lawPc275 = true := by kernel_rfl
def lawPc287 : Pc := [(q0, true), (q1, true), (q2, true), (q51, true), (q50, false), (q49, false), (q48, false), (q46, false), (q47, true), (q45, false), (q37, false), (q38, true), (q6, false)]
theorem start287_yes : lawStart0 lawPc287 = true := by kernel_rfl
def lawPc299 : Pc := [(q8, true), (q9, true), (q2, false), (q52, true), (q51, false), (q50, false), (q49, false), (q48, false), (q46, false), (q47, true), (q45, false), (q37, false), (q38, true), (q6, false)]
theorem start299_yes : lawStart4 lawPc299 = true := by kernel_rfl
def lawPc311 : Pc := [(q0, true), (q1, true), (q2, true), (q54, true), (q53, false), (q52, false), (q51, false), (q50, false), (q49, false), (q48, false), (q46, false), (q47, true), (q45, false), (q37, false), (q38, true), (q6, false)]
theorem start311_yes : lawStart0 lawPc311 = true := by kernel_rfl
def lawPc323 : Pc := [(q7, false), (q1, false), (q2, true), (q47, false), (q45, false), (q37, false), (q38, true), (q6, false)]
theorem start323_yes : lawStart3 lawPc323 = true := by kernel_rfl
def lawPc335 : Pc := [(q10, false), (q9, false), (q2, false), (q55, true), (q56, true), (q57, true), (q38, false), (q6, false)]
theorem start335_yes : lawStart7 lawPc335 = true := by kernel_rfl
def lawPc347 : Pc := [(q7, false), (q1, false), (q2, true), (q58, false), (q55, false), (q56, true), (q57, true), (q38, false), (q6, false)]
theorem start347_yes : lawStart3 lawPc347 = true := by kernel_rfl
def lawPc359 : Pc := [(q10, false), (q9, false), (q2, false), (q59, true), (q56, false), (q57, true), (q38, false), (q6, false)]
theorem start359_yes : lawStart7 lawPc359 = true := by kernel_rfl
def lawPc371 : Pc := [(q7, false), (q1, false), (q2, true), (q61, true), (q60, false), (q59, false), (q56, false), (q57, true), (q38, false), (q6, false)]
theorem start371_yes : lawStart3 lawPc371 = true := by kernel_rfl
def lawPc383 : Pc := [(q10, false), (q9, false), (q2, false), (q62, true), (q61, false), (q60, false), (q59, false), (q56, false), (q57, true), (q38, false), (q6, false)]
theorem start383_yes : lawStart7 lawPc383 = true := by kernel_rfl
def lawPc395 : Pc := [(q7, true), (q1, false), (q2, true), (q64, true), (q65, true), (q63, false), (q57, false), (q38, false), (q6, false)]
theorem start395_yes : lawStart2 lawPc395 = true := by kernel_rfl
def lawPc407 : Pc := [(q10, true), (q9, false), (q2, false), (q66, true), (q64, false), (q65, true), (q63, false), (q57, false), (q38, false), (q6, false)]
theorem start407_yes : lawStart6 lawPc407 = true := by kernel_rfl
def lawPc419 : Pc := [(q7, true), (q1, false), (q2, true), (q68, true), (q67, false), (q66, false), (q64, false), (q65, true), (q63, false), (q57, false), (q38, false), (q6, false)]
theorem start419_yes : lawStart2 lawPc419 = true := by kernel_rfl
def lawPc431 : Pc := [(q8, false), (q9, true), (q2, false), (q65, false), (q63, false), (q57, false), (q38, false), (q6, false)]
theorem start431_yes : lawStart5 lawPc431 = true := by kernel_rfl
end
end Go.Proofs.YtffhbmkpcenkoaaDoor.Sx
