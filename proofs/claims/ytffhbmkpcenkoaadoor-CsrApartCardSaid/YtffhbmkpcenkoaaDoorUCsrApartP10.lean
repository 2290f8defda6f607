/- CsrApart: a part of its cases. -/
import Derived.Test.YtffhbmkpcenkoaaDoorUCsrApart
set_option linter.unusedVariables false
set_option linter.unusedSimpArgs false
namespace Go.Proofs.YtffhbmkpcenkoaaDoor.Sx
open Go
noncomputable section
set_option maxRecDepth 100000
def lawPc10 : Pc := [(q7, true), (q1, false), (q2, true), (q11, true), (q3, false), (q4, true), (q5, true), (q6, true)]
theorem start10_yes : lawStart2 lawPc10 = true := by kernel_rfl
def lawPc22 : Pc := [(q8, false), (q9, true), (q2, false), (q12, true), (q4, false), (q5, true), (q6, true)]
theorem start22_yes : lawStart5 lawPc22 = true := by kernel_rfl
def lawPc34 : Pc := [(q0, false), (q1, true), (q2, true), (q15, true), (q13, false), (q14, true), (q12, false), (q4, false), (q5, true), (q6, true)]
theorem start34_yes : lawStart1 lawPc34 = true := by kernel_rfl
def lawPc46 : Pc := [(q8, false), (q9, true), (q2, false), (q16, true), (q15, false), (q13, false), (q14, true), (q12, false), (q4, false), (q5, true), (q6, true)]
theorem start46_yes : lawStart5 lawPc46 = true := by kernel_rfl
def lawPc58 : Pc := [(q0, true), (q1, true), (q2, true), (q17, true), (q18, true), (q19, true), (q5, false), (q6, true)]
theorem start58_yes : lawStart0 lawPc58 = true := by kernel_rfl
def lawPc70 : Pc := [(q8, true), (q9, true), (q2, false), (q20, true), (q17, false), (q18, true), (q19, true), (q5, false), (q6, true)]
theorem start70_yes : lawStart4 lawPc70 = true := by kernel_rfl
def lawPc82 : Pc := [(q0, true), (q1, true), (q2, true), (q22, true), (q21, false), (q20, false), (q17, false), (q18, true), (q19, true), (q5, false), (q6, true)]
theorem start82_yes : lawStart0 lawPc82 = true := by kernel_rfl
def lawPc94 : Pc := [(q8, true), (q9, true), (q2, false), (q23, true), (q22, false), (q21, false), (q20, false), (q17, false), (q18, true), (q19, true), (q5, false), (q6, true)]
theorem start94_yes : lawStart4 lawPc94 = true := by kernel_rfl
def lawPc106 : Pc := [(q10, false), (q9, false), (q2, false), (q24, true), (q18, false), (q19, true), (q5, false), (q6, true)]
theorem start106_yes : lawStart7 lawPc106 = true := by kernel_rfl
def lawPc118 : Pc := [(q7, true), (q1, false), (q2, true), (q26, true), (q19, false), (q5, false), (q6, true)]
theorem start118_yes : lawStart2 lawPc118 = true := by kernel_rfl
def lawPc130 : Pc := [(q10, true), (q9, false), (q2, false), (q27, true), (q28, true), (q26, false), (q19, false), (q5, false), (q6, true)]
theorem start130_yes : lawStart6 lawPc130 = true := by kernel_rfl
def lawPc142 : Pc := [(q7, true), (q1, false), (q2, true), (q30, true), (q29, false), (q27, false), (q28, true), (q26, false), (q19, false), (q5, false), (q6, true)]
theorem start142_yes : lawStart2 lawPc142 = true := by kernel_rfl
def lawPc154 : Pc := [(q10, true), (q9, false), (q2, false), (q31, true), (q30, false), (q29, false), (q27, false), (q28, true), (q26, false), (q19, false), (q5, false), (q6, true)]
theorem start154_yes : lawStart6 lawPc154 = true := by kernel_rfl
def lawPc166 : Pc := [(q7, true), (q1, false), (q2, true), (q33, true), (q32, false), (q31, false), (q30, false), (q29, false), (q27, false), (q28, true), (q26, false), (q19, false), (q5, false), (q6, true)]
theorem start166_yes : lawStart2 lawPc166 = true := by kernel_rfl
def lawPc178 : Pc := [(q10, true), (q9, false), (q2, false), (q34, true), (q33, false), (q32, false), (q31, false), (q30, false), (q29, false), (q27, false), (q28, true), (q26, false), (q19, false), (q5, false), (q6, true)]
theorem start178_yes : lawStart6 lawPc178 = true := by kernel_rfl
def lawPc190 : Pc := [(q0, false), (q1, true), (q2, true), (q35, true), (q36, true), (q37, true), (q38, true), (q6, false)]
theorem start190_yes : lawStart1 lawPc190 = true := by kernel_rfl
def lawPc202 : Pc := [(q8, false), (q9, true), (q2, false), (q39, true), (q35, false), (q36, true), (q37, true), (q38, true), (q6, false)]
theorem start202_yes : lawStart5 lawPc202 = true := by kernel_rfl
def lawPc214 : Pc := [(q0, false), (q1, true), (q2, true), (q41, true), (q40, false), (q39, false), (q35, false), (q36, true), (q37, true), (q38, true), (q6, false)]
theorem start214_yes : lawStart1 lawPc214 = true := by kernel_rfl
def lawPc226 : Pc := [(q8, false), (q9, true), (q2, false), (q42, true), (q41, false), (q40, false), (q39, false), (q35, false), (q36, true), (q37, true), (q38, true), (q6, false)]
theorem start226_yes : lawStart5 lawPc226 = true := by kernel_rfl
def lawPc238 : Pc := [(q0, true), (q1, true), (q2, true), (q44, true), (q43, false), (q36, false), (q37, true), (q38, true), (q6, false)]
theorem start238_yes : lawStart0 lawPc238 = true := by kernel_rfl
def lawPc250 : Pc := [(q7, false), (q1, false), (q2, true), (q45, true), (q37, false), (q38, true), (q6, false)]
theorem start250_yes : lawStart3 lawPc250 = true := by kernel_rfl
def lawPc262 : Pc := [(q10, false), (q9, false), (q2, false), (q46, true), (q47, true), (q45, false), (q37, false), (q38, true), (q6, false)]
theorem start262_yes : lawStart7 lawPc262 = true := by kernel_rfl
def lawPc274 : Pc := [(q7, false), (q1, false), (q2, true), (q49, true), (q48, false), (q46, false), (q47, true), (q45, false), (q37, false), (q38, true), (q6, false)]
theorem start274_yes : lawStart3 lawPc274 = true := by kernel_rfl
def lawPc286 : Pc := [(q10, false), (q9, false), (q2, false), (q50, true), (q49, false), (q48, false), (q46, false), (q47, true), (q45, false), (q37, false), (q38, true), (q6, false)]
theorem start286_yes : lawStart7 lawPc286 = true := by kernel_rfl
def lawPc298 : Pc := [(q7, false), (q1, false), (q2, true), (q52, true), (q51, false), (q50, false), (q49, false), (q48, false), (q46, false), (q47, true), (q45, false), (q37, false), (q38, true), (q6, false)]
theorem start298_yes : lawStart3 lawPc298 = true := by kernel_rfl
def lawPc310 : Pc := [(q10, false), (q9, false), (q2, false), (q53, true), (q52, false), (q51, false), (q50, false), (q49, false), (q48, false), (q46, false), (q47, true), (q45, false), (q37, false), (q38, true), (q6, false)]
theorem start310_yes : lawStart7 lawPc310 = true := by kernel_rfl
def lawPc322 : Pc := [(q7, true), (q1, false), (q2, true), (q47, false), (q45, false), (q37, false), (q38, true), (q6, false)]
theorem start322_yes : lawStart2 lawPc322 = true := by kernel_rfl
def lawPc334 : Pc := [(q10, true), (q9, false), (q2, false), (q55, true), (q56, true), (q57, true), (q38, false), (q6, false)]
theorem start334_yes : lawStart6 lawPc334 = true := by kernel_rfl
def lawPc346 : Pc := [(q7, true), (q1, false), (q2, true), (q58, false), (q55, false), (q56, true), (q57, true), (q38, false), (q6, false)]
theorem start346_yes : lawStart2 lawPc346 = true := by kernel_rfl
def lawPc358 : Pc := [(q10, true), (q9, false), (q2, false), (q59, true), (q56, false), (q57, true), (q38, false), (q6, false)]
theorem start358_yes : lawStart6 lawPc358 = true := by kernel_rfl
def lawPc370 : Pc := [(q7, true), (q1, false), (q2, true), (q61, true), (q60, false), (q59, false), (q56, false), (q57, true), (q38, false), (q6, false)]
theorem start370_yes : lawStart2 lawPc370 = true := by kernel_rfl
def lawPc382 : Pc := [(q10, true), (q9, false), (q2, false), (q62, true), (q61, false), (q60, false), (q59, false), (q56, false), (q57, true), (q38, false), (q6, false)]
theorem start382_yes : lawStart6 lawPc382 = true := by kernel_rfl
def lawPc394 : Pc := [(q0, false), (q1, true), (q2, true), (q64, true), (q65, true), (q63, false), (q57, false), (q38, false), (q6, false)]
theorem start394_yes : lawStart1 lawPc394 = true := by kernel_rfl
def lawPc406 : Pc := [(q8, false), (q9, true), (q2, false), (q66, true), (q64, false), (q65, true), (q63, false), (q57, false), (q38, false), (q6, false)]
theorem start406_yes : lawStart5 lawPc406 = true := by kernel_rfl
def lawPc418 : Pc := [(q0, false), (q1, true), (q2, true), (q68, true), (q67, false), (q66, false), (q64, false), (q65, true), (q63, false), (q57, false), (q38, false), (q6, false)]
theorem start418_yes : lawStart1 lawPc418 = true := by kernel_rfl
def lawPc430 : Pc := [(q8, true), (q9, true), (q2, false), (q65, false), (q63, false), (q57, false), (q38, false), (q6, false)]
theorem start430_yes : lawStart4 lawPc430 = true := by kernel_rfl
end
end Go.Proofs.YtffhbmkpcenkoaaDoor.Sx
