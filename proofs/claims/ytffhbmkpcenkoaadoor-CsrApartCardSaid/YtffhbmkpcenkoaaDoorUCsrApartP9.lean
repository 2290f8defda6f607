/- CsrApart: a part of its cases. -/
import Derived.Test.YtffhbmkpcenkoaaDoorUCsrApart
set_option linter.unusedVariables false
set_option linter.unusedSimpArgs false
namespace Go.Proofs.YtffhbmkpcenkoaaDoor.Sx
open Go
noncomputable section
set_option maxRecDepth 100000
def lawPc9 : Pc := [(q0, false), (q1, true), (q2, true), (q11, true), (q3, false), (q4, true), (q5, true), (q6, true)]
theorem start9_yes : lawStart1 lawPc9 = true := by kernel_rfl
def lawPc21 : Pc := [(q8, true), (q9, true), (q2, false), (q12, true), (q4, false), (q5, true), (q6, true)]
theorem start21_yes : lawStart4 lawPc21 = true := by kernel_rfl
def lawPc33 : Pc := [(q0, true), (q1, true), (q2, true), (q15, true), (q13, false), (q14, true), (q12, false), (q4, false), (q5, true), (q6, true)]
theorem start33_yes : lawStart0 lawPc33 = true := by kernel_rfl
def lawPc45 : Pc := [(q8, true), (q9, true), (q2, false), (q16, true), (q15, false), (q13, false), (q14, true), (q12, false), (q4, false), (q5, true), (q6, true)]
theorem start45_yes : lawStart4 lawPc45 = true := by kernel_rfl
def lawPc57 : Pc := [(q10, false), (q9, false), (q2, false), (q14, false), (q12, false), (q4, false), (q5, true), (q6, true)]
theorem start57_yes : lawStart7 lawPc57 = true := by kernel_rfl
def lawPc69 : Pc := [(q7, false), (q1, false), (q2, true), (q20, true), (q17, false), (q18, true), (q19, true), (q5, false), (q6, true)]
theorem start69_yes : lawStart3 lawPc69 = true := by kernel_rfl
def lawPc81 : Pc := [(q10, false), (q9, false), (q2, false), (q21, true), (q20, false), (q17, false), (q18, true), (q19, true), (q5, false), (q6, true)]
theorem start81_yes : lawStart7 lawPc81 = true := by kernel_rfl
def lawPc93 : Pc := [(q7, false), (q1, false), (q2, true), (q23, true), (q22, false), (q21, false), (q20, false), (q17, false), (q18, true), (q19, true), (q5, false), (q6, true)]
theorem start93_yes : lawStart3 lawPc93 = true := by kernel_rfl
def lawPc105 : Pc := [(q10, true), (q9, false), (q2, false), (q24, true), (q18, false), (q19, true), (q5, false), (q6, true)]
theorem start105_yes : lawStart6 lawPc105 = true := by kernel_rfl
def lawPc117 : Pc := [(q0, false), (q1, true), (q2, true), (q26, true), (q19, false), (q5, false), (q6, true)]
theorem start117_yes : lawStart1 lawPc117 = true := by kernel_rfl
def lawPc129 : Pc := [(q8, false), (q9, true), (q2, false), (q27, true), (q28, true), (q26, false), (q19, false), (q5, false), (q6, true)]
theorem start129_yes : lawStart5 lawPc129 = true := by kernel_rfl
def lawPc141 : Pc := [(q0, false), (q1, true), (q2, true), (q30, true), (q29, false), (q27, false), (q28, true), (q26, false), (q19, false), (q5, false), (q6, true)]
theorem start141_yes : lawStart1 lawPc141 = true := by kernel_rfl
def lawPc153 : Pc := [(q8, false), (q9, true), (q2, false), (q31, true), (q30, false), (q29, false), (q27, false), (q28, true), (q26, false), (q19, false), (q5, false), (q6, true)]
theorem start153_yes : lawStart5 lawPc153 = true := by kernel_rfl
def lawPc165 : Pc := [(q0, false), (q1, true), (q2, true), (q33, true), (q32, false), (q31, false), (q30, false), (q29, false), (q27, false), (q28, true), (q26, false), (q19, false), (q5, false), (q6, true)]
theorem start165_yes : lawStart1 lawPc165 = true := by kernel_rfl
def lawPc177 : Pc := [(q8, false), (q9, true), (q2, false), (q34, true), (q33, false), (q32, false), (q31, false), (q30, false), (q29, false), (q27, false), (q28, true), (q26, false), (q19, false), (q5, false), (q6, true)]
theorem start177_yes : lawStart5 lawPc177 = true := by kernel_rfl
def lawPc189 : Pc := [(q0, true), (q1, true), (q2, true), (q35, true), (q36, true), (q37, true), (q38, true), (q6, false)]
theorem start189_yes : lawStart0 lawPc189 = true := by kernel_rfl
def lawPc201 : Pc := [(q8, true), (q9, true), (q2, false), (q39, true), (q35, false), (q36, true), (q37, true), (q38, true), (q6, false)]
theorem start201_yes : lawStart4 lawPc201 = true := by kernel_rfl
def lawPc213 : Pc := [(q0, true), (q1, true), (q2, true), (q41, true), (q40, false), (q39, false), (q35, false), (q36, true), (q37, true), (q38, true), (q6, false)]
theorem start213_yes : lawStart0 lawPc213 = true := by kernel_rfl
def lawPc225 : Pc := [(q8, true), (q9, true), (q2, false), (q42, true), (q41, false), (q40, false), (q39, false), (q35, false), (q36, true), (q37, true), (q38, true), (q6, false)]
theorem start225_yes : lawStart4 lawPc225 = true := by kernel_rfl
def lawPc237 : Pc := [(q10, false), (q9, false), (q2, false), (q43, true), (q36, false), (q37, true), (q38, true), (q6, false)]
theorem start237_yes : lawStart7 lawPc237 = true := by kernel_rfl
def lawPc249 : Pc := [(q7, true), (q1, false), (q2, true), (q45, true), (q37, false), (q38, true), (q6, false)]
theorem start249_yes : lawStart2 lawPc249 = true := by kernel_rfl
def lawPc261 : Pc := [(q10, true), (q9, false), (q2, false), (q46, true), (q47, true), (q45, false), (q37, false), (q38, true), (q6, false)]
theorem start261_yes : lawStart6 lawPc261 = true := by kernel_rfl
def lawPc273 : Pc := [(q7, true), (q1, false), (q2, true), (q49, true), (q48, false), (q46, false), (q47, true), (q45, false), (q37, false), (q38, true), (q6, false)]
theorem start273_yes : lawStart2 lawPc273 = true := by kernel_rfl
def lawPc285 : Pc := [(q10, true), (q9, false), (q2, false), (q50, true), (q49, false), (q48, false), (q46, false), (q47, true), (q45, false), (q37, false), (q38, true), (q6, false)]
theorem start285_yes : lawStart6 lawPc285 = true := by kernel_rfl
def lawPc297 : Pc := [(q7, true), (q1, false), (q2, true), (q52, true), (q51, false), (q50, false), (q49, false), (q48, false), (q46, false), (q47, true), (q45, false), (q37, false), (q38, true), (q6, false)]
theorem start297_yes : lawStart2 lawPc297 = true := by kernel_rfl
def lawPc309 : Pc := [(q10, true), (q9, false), (q2, false), (q53, true), (q52, false), (q51, false), (q50, false), (q49, false), (q48, false), (q46, false), (q47, true), (q45, false), (q37, false), (q38, true), (q6, false)]
theorem start309_yes : lawStart6 lawPc309 = true := by kernel_rfl
def lawPc321 : Pc := [(q0, false), (q1, true), (q2, true), (q47, false), (q45, false), (q37, false), (q38, true), (q6, false)]
theorem start321_yes : lawStart1 lawPc321 = true := by kernel_rfl
def lawPc333 : Pc := [(q8, false), (q9, true), (q2, false), (q55, true), (q56, true), (q57, true), (q38, false), (q6, false)]
theorem start333_yes : lawStart5 lawPc333 = true := by kernel_rfl
def lawPc345 : Pc := [(q0, false), (q1, true), (q2, true), (q58, false), (q55, false), (q56, true), (q57, true), (q38, false), (q6, false)]
theorem start345_yes : lawStart1 lawPc345 = true := by kernel_rfl
def lawPc357 : Pc := [(q8, false), (q9, true), (q2, false), (q59, true), (q56, false), (q57, true), (q38, false), (q6, false)]
theorem start357_yes : lawStart5 lawPc357 = true := by kernel_rfl
def lawPc369 : Pc := [(q0, false), (q1, true), (q2, true), (q61, true), (q60, false), (q59, false), (q56, false), (q57, true), (q38, false), (q6, false)]
theorem start369_yes : lawStart1 lawPc369 = true := by kernel_rfl
def lawPc381 : Pc := [(q8, false), (q9, true), (q2, false), (q62, true), (q61, false), (q60, false), (q59, false), (q56, false), (q57, true), (q38, false), (q6, false)]
theorem start381_yes : lawStart5 lawPc381 = true := by kernel_rfl
def lawPc393 : Pc := [(q0, true), (q1, true), (q2, true), (q64, true), (q65, true), (q63, false), (q57, false), (q38, false), (q6, false)]
theorem start393_yes : lawStart0 lawPc393 = true := by kernel_rfl
def lawPc405 : Pc := [(q8, true), (q9, true), (q2, false), (q66, true), (q64, false), (q65, true), (q63, false), (q57, false), (q38, false), (q6, false)]
theorem start405_yes : lawStart4 lawPc405 = true := by kernel_rfl
def lawPc417 : Pc := [(q0, true), (q1, true), (q2, true), (q68, true), (q67, false), (q66, false), (q64, false), (q65, true), (q63, false), (q57, false), (q38, false), (q6, false)]
theorem start417_yes : lawStart0 lawPc417 = true := by kernel_rfl
def lawPc429 : Pc := [(q7, false), (q1, false), (q2, true), (q65, false), (q63, false), (q57, false), (q38, false), (q6, false)]
theorem start429_yes : lawStart3 lawPc429 = true := by kernel_rfl
end
end Go.Proofs.YtffhbmkpcenkoaaDoor.Sx
