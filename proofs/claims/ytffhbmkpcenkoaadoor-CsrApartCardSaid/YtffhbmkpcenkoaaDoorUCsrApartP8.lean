/- CsrApart: a part of its cases. -/
import Derived.Test.YtffhbmkpcenkoaaDoorUCsrApart
set_option linter.unusedVariables false
set_option linter.unusedSimpArgs false
namespace Go.Proofs.YtffhbmkpcenkoaaDoor.Sx
open Go
noncomputable section
set_option maxRecDepth 100000
def lawPc8 : Pc := [(q0, true), (q1, true), (q2, true), (q11, true), (q3, false), (q4, true), (q5, true), (q6, true)]
theorem start8_yes : lawStart0 lawPc8 = true := by kernel_rfl
def lawPc20 : Pc := [(q7, false), (q1, false), (q2, true), (q12, true), (q4, false), (q5, true), (q6, true)]
theorem start20_yes : lawStart3 lawPc20 = true := by kernel_rfl
def lawPc32 : Pc := [(q10, false), (q9, false), (q2, false), (q13, true), (q14, true), (q12, false), (q4, false), (q5, true), (q6, true)]
theorem start32_yes : lawStart7 lawPc32 = true := by kernel_rfl
def lawPc44 : Pc := [(q7, false), (q1, false), (q2, true), (q16, true), (q15, false), (q13, false), (q14, true), (q12, false), (q4, false), (q5, true), (q6, true)]
theorem start44_yes : lawStart3 lawPc44 = true := by kernel_rfl
def lawPc56 : Pc := [(q10, true), (q9, false), (q2, false), (q14, false), (q12, false), (q4, false), (q5, true), (q6, true)]
theorem start56_yes : lawStart6 lawPc56 = true := by kernel_rfl
def lawPc68 : Pc := [(q7, true), (q1, false), (q2, true), (q20, true), (q17, false), (q18, true), (q19, true), (q5, false), (q6, true)]
theorem start68_yes : lawStart2 lawPc68 = true := by kernel_rfl
def lawPc80 : Pc := [(q10, true), (q9, false), (q2, false), (q21, true), (q20, false), (q17, false), (q18, true), (q19, true), (q5, false), (q6, true)]
theorem start80_yes : lawStart6 lawPc80 = true := by kernel_rfl
def lawPc92 : Pc := [(q7, true), (q1, false), (q2, true), (q23, true), (q22, false), (q21, false), (q20, false), (q17, false), (q18, true), (q19, true), (q5, false), (q6, true)]
theorem start92_yes : lawStart2 lawPc92 = true := by kernel_rfl
def lawPc104 : Pc := [(q8, false), (q9, true), (q2, false), (q24, true), (q18, false), (q19, true), (q5, false), (q6, true)]
theorem start104_yes : lawStart5 lawPc104 = true := by kernel_rfl
def lawPc116 : Pc := [(q0, true), (q1, true), (q2, true), (q26, true), (q19, false), (q5, false), (q6, true)]
theorem start116_yes : lawStart0 lawPc116 = true := by kernel_rfl
def lawPc128 : Pc := [(q8, true), (q9, true), (q2, false), (q27, true), (q28, true), (q26, false), (q19, false), (q5, false), (q6, true)]
theorem start128_yes : lawStart4 lawPc128 = true := by kernel_rfl
def lawPc140 : Pc := [(q0, true), (q1, true), (q2, true), (q30, true), (q29, false), (q27, false), (q28, true), (q26, false), (q19, false), (q5, false), (q6, true)]
theorem start140_yes : lawStart0 lawPc140 = true := by kernel_rfl
def lawPc152 : Pc := [(q8, true), (q9, true), (q2, false), (q31, true), (q30, false), (q29, false), (q27, false), (q28, true), (q26, false), (q19, false), (q5, false), (q6, true)]
theorem start152_yes : lawStart4 lawPc152 = true := by kernel_rfl
def lawPc164 : Pc := [(q0, true), (q1, true), (q2, true), (q33, true), (q32, false), (q31, false), (q30, false), (q29, false), (q27, false), (q28, true), (q26, false), (q19, false), (q5, false), (q6, true)]
theorem start164_yes : lawStart0 lawPc164 = true := by kernel_rfl
def lawPc176 : Pc := [(q8, true), (q9, true), (q2, false), (q34, true), (q33, false), (q32, false), (q31, false), (q30, false), (q29, false), (q27, false), (q28, true), (q26, false), (q19, false), (q5, false), (q6, true)]
theorem start176_yes : lawStart4 lawPc176 = true := by kernel_rfl
def lawPc188 : Pc := [(q10, false), (q9, false), (q2, false), (q28, false), (q26, false), (q19, false), (q5, false), (q6, true)]
theorem start188_yes : lawStart7 lawPc188 = true := by kernel_rfl
def lawPc200 : Pc := [(q7, false), (q1, false), (q2, true), (q39, true), (q35, false), (q36, true), (q37, true), (q38, true), (q6, false)]
theorem start200_yes : lawStart3 lawPc200 = true := by kernel_rfl
def lawPc212 : Pc := [(q10, false), (q9, false), (q2, false), (q40, true), (q39, false), (q35, false), (q36, true), (q37, true), (q38, true), (q6, false)]
theorem start212_yes : lawStart7 lawPc212 = true := by kernel_rfl
def lawPc224 : Pc := [(q7, false), (q1, false), (q2, true), (q42, true), (q41, false), (q40, false), (q39, false), (q35, false), (q36, true), (q37, true), (q38, true), (q6, false)]
theorem start224_yes : lawStart3 lawPc224 = true := by kernel_rfl
def lawPc236 : Pc := [(q10, true), (q9, false), (q2, false), (q43, true), (q36, false), (q37, true), (q38, true), (q6, false)]
theorem start236_yes : lawStart6 lawPc236 = true := by kernel_rfl
def lawPc248 : Pc := [(q0, false), (q1, true), (q2, true), (q45, true), (q37, false), (q38, true), (q6, false)]
theorem start248_yes : lawStart1 lawPc248 = true := by kernel_rfl
def lawPc260 : Pc := [(q8, false), (q9, true), (q2, false), (q46, true), (q47, true), (q45, false), (q37, false), (q38, true), (q6, false)]
theorem start260_yes : lawStart5 lawPc260 = true := by kernel_rfl
def lawPc272 : Pc := [(q0, false), (q1, true), (q2, true), (q49, true), (q48, false), (q46, false), (q47, true), (q45, false), (q37, false), (q38, true), (q6, false)]
theorem start272_yes : lawStart1 lawPc272 = true := by kernel_rfl
def lawPc284 : Pc := [(q8, false), (q9, true), (q2, false), (q50, true), (q49, false), (q48, false), (q46, false), (q47, true), (q45, false), (q37, false), (q38, true), (q6, false)]
theorem start284_yes : lawStart5 lawPc284 = true := by kernel_rfl
def lawPc296 : Pc := [(q0, false), (q1, true), (q2, true), (q52, true), (q51, false), (q50, false), (q49, false), (q48, false), (q46, false), (q47, true), (q45, false), (q37, false), (q38, true), (q6, false)]
theorem start296_yes : lawStart1 lawPc296 = true := by kernel_rfl
def lawPc308 : Pc := [(q8, false), (q9, true), (q2, false), (q53, true), (q52, false), (q51, false), (q50, false), (q49, false), (q48, false), (q46, false), (q47, true), (q45, false), (q37, false), (q38, true), (q6, false)]
theorem start308_yes : lawStart5 lawPc308 = true := by kernel_rfl
def lawPc320 : Pc := [(q0, true), (q1, true), (q2, true), (q47, false), (q45, false), (q37, false), (q38, true), (q6, false)]
theorem start320_yes : lawStart0 lawPc320 = true := by kernel_rfl
def lawPc332 : Pc := [(q8, true), (q9, true), (q2, false), (q55, true), (q56, true), (q57, true), (q38, false), (q6, false)]
theorem start332_yes : lawStart4 lawPc332 = true := by kernel_rfl
def lawPc344 : Pc := [(q0, true), (q1, true), (q2, true), (q58, false), (q55, false), (q56, true), (q57, true), (q38, false), (q6, false)]
theorem start344_yes : lawStart0 lawPc344 = true := by kernel_rfl
def lawPc356 : Pc := [(q8, true), (q9, true), (q2, false), (q59, true), (q56, false), (q57, true), (q38, false), (q6, false)]
theorem start356_yes : lawStart4 lawPc356 = true := by kernel_rfl
def lawPc368 : Pc := [(q0, true), (q1, true), (q2, true), (q61, true), (q60, false), (q59, false), (q56, false), (q57, true), (q38, false), (q6, false)]
theorem start368_yes : lawStart0 lawPc368 = true := by kernel_rfl
def lawPc380 : Pc := [(q8, true), (q9, true), (q2, false), (q62, true), (q61, false), (q60, false), (q59, false), (q56, false), (q57, true), (q38, false), (q6, false)]
theorem start380_yes : lawStart4 lawPc380 = true := by kernel_rfl
def lawPc392 : Pc := [(q10, false), (q9, false), (q2, false), (q63, true), (q57, false), (q38, false), (q6, false)]
theorem start392_yes : lawStart7 lawPc392 = true := by kernel_rfl
def lawPc404 : Pc := [(q7, false), (q1, false), (q2, true), (q66, true), (q64, false), (q65, true), (q63, false), (q57, false), (q38, false), (q6, false)]
theorem start404_yes : lawStart3 lawPc404 = true := by kernel_rfl
def lawPc416 : Pc := [(q10, false), (q9, false), (q2, false), (q67, true), (q66, false), (q64, false), (q65, true), (q63, false), (q57, false), (q38, false), (q6, false)]
theorem start416_yes : lawStart7 lawPc416 = true := by kernel_rfl
def lawPc428 : Pc := [(q7, true), (q1, false), (q2, true), (q65, false), (q63, false), (q57, false), (q38, false), (q6, false)]
theorem start428_yes : lawStart2 lawPc428 = true := by kernel_rfl
end
end Go.Proofs.YtffhbmkpcenkoaaDoor.Sx
