/- CsrApart: a part of its cases. -/
import Derived.Test.YtffhbmkpcenkoaaDoorUCsrApart
set_option linter.unusedVariables false
set_option linter.unusedSimpArgs false
namespace Go.Proofs.YtffhbmkpcenkoaaDoor.Sx
open Go
noncomputable section
set_option maxRecDepth 100000
def lawPc3 : Pc := [(q7, false), (q1, false), (q2, true), (q3, true), (q4, true), (q5, true), (q6, true)]
theorem start3_yes : lawStart3 lawPc3 = true := by kernel_rfl
def lawPc15 : Pc := [(q10, false), (q9, false), (q2, false), (q11, true), (q3, false), (q4, true), (q5, true), (q6, true)]
theorem start15_yes : lawStart7 lawPc15 = true := by kernel_rfl
def lawPc27 : Pc := [(q7, true), (q1, false), (q2, true), (q13, true), (q14, true), (q12, false), (q4, false), (q5, true), (q6, true)]
theorem start27_yes : lawStart2 lawPc27 = true := by kernel_rfl
def lawPc39 : Pc := [(q10, true), (q9, false), (q2, false), (q15, true), (q13, false), (q14, true), (q12, false), (q4, false), (q5, true), (q6, true)]
theorem start39_yes : lawStart6 lawPc39 = true := by kernel_rfl
def lawPc51 : Pc := [(q0, false), (q1, true), (q2, true), (q14, false), (q12, false), (q4, false), (q5, true), (q6, true)]
theorem start51_yes : lawStart1 lawPc51 = true := by kernel_rfl
def lawPc63 : Pc := [(q8, false), (q9, true), (q2, false), (q17, true), (q18, true), (q19, true), (q5, false), (q6, true)]
theorem start63_yes : lawStart5 lawPc63 = true := by kernel_rfl
def lawPc75 : Pc := [(q0, false), (q1, true), (q2, true), (q21, true), (q20, false), (q17, false), (q18, true), (q19, true), (q5, false), (q6, true)]
theorem start75_yes : lawStart1 lawPc75 = true := by kernel_rfl
def lawPc87 : Pc := [(q8, false), (q9, true), (q2, false), (q22, true), (q21, false), (q20, false), (q17, false), (q18, true), (q19, true), (q5, false), (q6, true)]
theorem start87_yes : lawStart5 lawPc87 = true := by kernel_rfl
def lawPc99 : Pc := [(q0, true), (q1, true), (q2, true), (q24, true), (q18, false), (q19, true), (q5, false), (q6, true)]
theorem start99_yes : lawStart0 lawPc99 = true := by kernel_rfl
def lawPc111 : Pc := [(q8, true), (q9, true), (q2, false), (q25, true), (q24, false), (q18, false), (q19, true), (q5, false), (q6, true)]
theorem start111_yes : lawStart4 lawPc111 = true := by kernel_rfl
def lawPc123 : Pc := [(q10, false), (q9, false), (q2, false), (q26, true), (q19, false), (q5, false), (q6, true)]
theorem start123_yes : lawStart7 lawPc123 = true := by kernel_rfl
def lawPc135 : Pc := [(q7, false), (q1, false), (q2, true), (q29, true), (q27, false), (q28, true), (q26, false), (q19, false), (q5, false), (q6, true)]
theorem start135_yes : lawStart3 lawPc135 = true := by kernel_rfl
def lawPc147 : Pc := [(q10, false), (q9, false), (q2, false), (q30, true), (q29, false), (q27, false), (q28, true), (q26, false), (q19, false), (q5, false), (q6, true)]
theorem start147_yes : lawStart7 lawPc147 = true := by kernel_rfl
def lawPc159 : Pc := [(q7, false), (q1, false), (q2, true), (q32, true), (q31, false), (q30, false), (q29, false), (q27, false), (q28, true), (q26, false), (q19, false), (q5, false), (q6, true)]
theorem start159_yes : lawStart3 lawPc159 = true := by kernel_rfl
def lawPc171 : Pc := [(q10, false), (q9, false), (q2, false), (q33, true), (q32, false), (q31, false), (q30, false), (q29, false), (q27, false), (q28, true), (q26, false), (q19, false), (q5, false), (q6, true)]
theorem start171_yes : lawStart7 lawPc171 = true := by kernel_rfl
def lawPc183 : Pc := [(q7, true), (q1, false), (q2, true), (q28, false), (q26, false), (q19, false), (q5, false), (q6, true)]
theorem start183_yes : lawStart2 lawPc183 = true := by kernel_rfl
def lawPc195 : Pc := [(q10, true), (q9, false), (q2, false), (q35, true), (q36, true), (q37, true), (q38, true), (q6, false)]
theorem start195_yes : lawStart6 lawPc195 = true := by kernel_rfl
def lawPc207 : Pc := [(q7, true), (q1, false), (q2, true), (q40, true), (q39, false), (q35, false), (q36, true), (q37, true), (q38, true), (q6, false)]
theorem start207_yes : lawStart2 lawPc207 = true := by kernel_rfl
def lawPc219 : Pc := [(q10, true), (q9, false), (q2, false), (q41, true), (q40, false), (q39, false), (q35, false), (q36, true), (q37, true), (q38, true), (q6, false)]
theorem start219_yes : lawStart6 lawPc219 = true := by kernel_rfl
def lawPc231 : Pc := [(q0, false), (q1, true), (q2, true), (q43, true), (q36, false), (q37, true), (q38, true), (q6, false)]
theorem start231_yes : lawStart1 lawPc231 = true := by kernel_rfl
def lawPc243 : Pc := [(q8, false), (q9, true), (q2, false), (q44, true), (q43, false), (q36, false), (q37, true), (q38, true), (q6, false)]
theorem start243_yes : lawStart5 lawPc243 = true := by kernel_rfl
def lawPc255 : Pc := [(q0, true), (q1, true), (q2, true), (q46, true), (q47, true), (q45, false), (q37, false), (q38, true), (q6, false)]
theorem start255_yes : lawStart0 lawPc255 = true := by kernel_rfl
def lawPc267 : Pc := [(q8, true), (q9, true), (q2, false), (q48, true), (q46, false), (q47, true), (q45, false), (q37, false), (q38, true), (q6, false)]
theorem start267_yes : lawStart4 lawPc267 = true := by kernel_rfl
def lawPc279 : Pc := [(q0, true), (q1, true), (q2, true), (q50, true), (q49, false), (q48, false), (q46, false), (q47, true), (q45, false), (q37, false), (q38, true), (q6, false)]
theorem start279_yes : lawStart0 lawPc279 = true := by kernel_rfl
def lawPc291 : Pc := [(q8, true), (q9, true), (q2, false), (q51, true), (q50, false), (q49, false), (q48, false), (q46, false), (q47, true), (q45, false), (q37, false), (q38, true), (q6, false)]
theorem start291_yes : lawStart4 lawPc291 = true := by kernel_rfl
def lawPc303 : Pc := [(q0, true), (q1, true), (q2, true), (q53, true), (q52, false), (q51, false), (q50, false), (q49, false), (q48, false), (q46, false), (q47, true), (q45, false), (q37, false), (q38, true), (q6, false)]
theorem start303_yes : lawStart0 lawPc303 = true := by kernel_rfl
def lawPc315 : Pc := [(q8, true), (q9, true), (q2, false), (q54, true), (q53, false), (q52, false), (q51, false), (q50, false), (q49, false), (q48, false), (q46, false), (q47, true), (q45, false), (q37, false), (q38, true), (q6, false)]
theorem start315_yes : lawStart4 lawPc315 = true := by kernel_rfl
def lawPc327 : Pc := [(q10, false), (q9, false), (q2, false), (q47, false), (q45, false), (q37, false), (q38, true), (q6, false)]
theorem start327_yes : lawStart7 lawPc327 = true := by kernel_rfl
def lawPc339 : Pc := [(q7, false), (q1, false), (q2, true), (q58, true), (q55, false), (q56, true), (q57, true), (q38, false), (q6, false)]
theorem start339_yes : lawStart3 lawPc339 = true := by kernel_rfl
def lawPc351 : Pc := [(q10, false), (q9, false), (q2, false), (q58, false), (q55, false), (q56, true), (q57, true), (q38, false), (q6, false)]
theorem start351_yes : lawStart7 lawPc351 = true := by kernel_rfl
def lawPc363 : Pc := [(q7, false), (q1, false), (q2, true), (q60, true), (q59, false), (q56, false), (q57, true), (q38, false), (q6, false)]
theorem start363_yes : lawStart3 lawPc363 = true := by kernel_rfl
def lawPc375 : Pc := [(q10, false), (q9, false), (q2, false), (q61, true), (q60, false), (q59, false), (q56, false), (q57, true), (q38, false), (q6, false)]
theorem start375_yes : lawStart7 lawPc375 = true := by kernel_rfl
def lawPc387 : Pc := [(q7, true), (q1, false), (q2, true), (q63, true), (q57, false), (q38, false), (q6, false)]
theorem start387_yes : lawStart2 lawPc387 = true := by kernel_rfl
def lawPc399 : Pc := [(q10, true), (q9, false), (q2, false), (q64, true), (q65, true), (q63, false), (q57, false), (q38, false), (q6, false)]
theorem start399_yes : lawStart6 lawPc399 = true := by kernel_rfl
def lawPc411 : Pc := [(q7, true), (q1, false), (q2, true), (q67, true), (q66, false), (q64, false), (q65, true), (q63, false), (q57, false), (q38, false), (q6, false)]
theorem start411_yes : lawStart2 lawPc411 = true := by kernel_rfl
def lawPc423 : Pc := [(q10, true), (q9, false), (q2, false), (q68, true), (q67, false), (q66, false), (q64, false), (q65, true), (q63, false), (q57, false), (q38, false), (q6, false)]
theorem start423_yes : lawStart6 lawPc423 = true := by kernel_rfl
end
end Go.Proofs.YtffhbmkpcenkoaaDoor.Sx
