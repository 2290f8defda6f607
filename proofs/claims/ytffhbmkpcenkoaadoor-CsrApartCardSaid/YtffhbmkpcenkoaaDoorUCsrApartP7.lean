/- CsrApart: a part of its cases. -/
import Derived.Test.YtffhbmkpcenkoaaDoorUCsrApart
set_option linter.unusedVariables false
set_option linter.unusedSimpArgs false
namespace Go.Proofs.YtffhbmkpcenkoaaDoor.Sx
open Go
noncomputable section
set_option maxRecDepth 100000
def lawPc7 : Pc := [(q10, false), (q9, false), (q2, false), (q3, true), (q4, true), (q5, true), (q6, true)]
theorem start7_yes : lawStart7 lawPc7 = true := by kernel_rfl
def lawPc19 : Pc := [(q7, true), (q1, false), (q2, true), (q12, true), (q4, false), (q5, true), (q6, true)]
theorem start19_yes : lawStart2 lawPc19 = true := by kernel_rfl
def lawPc31 : Pc := [(q10, true), (q9, false), (q2, false), (q13, true), (q14, true), (q12, false), (q4, false), (q5, true), (q6, true)]
theorem start31_yes : lawStart6 lawPc31 = true := by kernel_rfl
def lawPc43 : Pc := [(q7, true), (q1, false), (q2, true), (q16, true), (q15, false), (q13, false), (q14, true), (q12, false), (q4, false), (q5, true), (q6, true)]
theorem start43_yes : lawStart2 lawPc43 = true := by kernel_rfl
def lawPc55 : Pc := [(q8, false), (q9, true), (q2, false), (q14, false), (q12, false), (q4, false), (q5, true), (q6, true)]
theorem start55_yes : lawStart5 lawPc55 = true := by kernel_rfl
def lawPc67 : Pc := [(q0, false), (q1, true), (q2, true), (q20, true), (q17, false), (q18, true), (q19, true), (q5, false), (q6, true)]
theorem start67_yes : lawStart1 lawPc67 = true := by kernel_rfl
def lawPc79 : Pc := [(q8, false), (q9, true), (q2, false), (q21, true), (q20, false), (q17, false), (q18, true), (q19, true), (q5, false), (q6, true)]
theorem start79_yes : lawStart5 lawPc79 = true := by kernel_rfl
def lawPc91 : Pc := [(q0, false), (q1, true), (q2, true), (q23, true), (q22, false), (q21, false), (q20, false), (q17, false), (q18, true), (q19, true), (q5, false), (q6, true)]
theorem start91_yes : lawStart1 lawPc91 = true := by kernel_rfl
def lawPc103 : Pc := [(q8, true), (q9, true), (q2, false), (q24, true), (q18, false), (q19, true), (q5, false), (q6, true)]
theorem start103_yes : lawStart4 lawPc103 = true := by kernel_rfl
def lawPc115 : Pc := [((.eq (.var 31 0 65535) (.lit 384)), false), ((.lt (.var 31 0 65535) (.lit 384)), false), ((.lt (.var 31 0 65535) (.lit 325)), false), ((.lt (.var 31 0 65535) (.lit 385)), true), ((.lt (.var 31 0 65535) (.lit 320)), false), ((.lt (.var 31 0 65535) (.lit 832)), true)]
theorem x115_no (i : Nat → Int) (hh : Holds i lawPc115) : False := by
  have h0 := hh _ _ (.head _)
  have h1 := hh _ _ (.tail _ (.head _))
  have h2 := hh _ _ (.tail _ (.tail _ (.head _)))
  have h3 := hh _ _ (.tail _ (.tail _ (.tail _ (.head _))))
  have h4 := hh _ _ (.tail _ (.tail _ (.tail _ (.tail _ (.head _)))))
  have h5 := hh _ _ (.tail _ (.tail _ (.tail _ (.tail _ (.tail _ (.head _))))))
  clear hh
  simp only [N.den, true_iff, Bool.false_eq_true, false_iff, bI_ne, ieq_iff, ilt_iff, Classical.not_not, ne_eq] at h0 h1 h2 h3 h4 h5
  omega
def lawPc127 : Pc := [(q7, false), (q1, false), (q2, true), (q27, true), (q28, true), (q26, false), (q19, false), (q5, false), (q6, true)]
theorem start127_yes : lawStart3 lawPc127 = true := by kernel_rfl
def lawPc139 : Pc := [(q10, false), (q9, false), (q2, false), (q29, true), (q27, false), (q28, true), (q26, false), (q19, false), (q5, false), (q6, true)]
theorem start139_yes : lawStart7 lawPc139 = true := by kernel_rfl
def lawPc151 : Pc := [(q7, false), (q1, false), (q2, true), (q31, true), (q30, false), (q29, false), (q27, false), (q28, true), (q26, false), (q19, false), (q5, false), (q6, true)]
theorem start151_yes : lawStart3 lawPc151 = true := by kernel_rfl
def lawPc163 : Pc := [(q10, false), (q9, false), (q2, false), (q32, true), (q31, false), (q30, false), (q29, false), (q27, false), (q28, true), (q26, false), (q19, false), (q5, false), (q6, true)]
theorem start163_yes : lawStart7 lawPc163 = true := by kernel_rfl
def lawPc175 : Pc := [(q7, false), (q1, false), (q2, true), (q34, true), (q33, false), (q32, false), (q31, false), (q30, false), (q29, false), (q27, false), (q28, true), (q26, false), (q19, false), (q5, false), (q6, true)]
theorem start175_yes : lawStart3 lawPc175 = true := by kernel_rfl
def lawPc187 : Pc := [(q10, true), (q9, false), (q2, false), (q28, false), (q26, false), (q19, false), (q5, false), (q6, true)]
theorem start187_yes : lawStart6 lawPc187 = true := by kernel_rfl
def lawPc199 : Pc := [(q7, true), (q1, false), (q2, true), (q39, true), (q35, false), (q36, true), (q37, true), (q38, true), (q6, false)]
theorem start199_yes : lawStart2 lawPc199 = true := by kernel_rfl
def lawPc211 : Pc := [(q10, true), (q9, false), (q2, false), (q40, true), (q39, false), (q35, false), (q36, true), (q37, true), (q38, true), (q6, false)]
theorem start211_yes : lawStart6 lawPc211 = true := by kernel_rfl
def lawPc223 : Pc := [(q7, true), (q1, false), (q2, true), (q42, true), (q41, false), (q40, false), (q39, false), (q35, false), (q36, true), (q37, true), (q38, true), (q6, false)]
theorem start223_yes : lawStart2 lawPc223 = true := by kernel_rfl
def lawPc235 : Pc := [(q8, false), (q9, true), (q2, false), (q43, true), (q36, false), (q37, true), (q38, true), (q6, false)]
theorem start235_yes : lawStart5 lawPc235 = true := by kernel_rfl
def lawPc247 : Pc := [(q0, true), (q1, true), (q2, true), (q45, true), (q37, false), (q38, true), (q6, false)]
theorem start247_yes : lawStart0 lawPc247 = true := by kernel_rfl
def lawPc259 : Pc := [(q8, true), (q9, true), (q2, false), (q46, true), (q47, true), (q45, false), (q37, false), (q38, true), (q6, false)]
theorem start259_yes : lawStart4 lawPc259 = true := by kernel_rfl
def lawPc271 : Pc := [(q0, true), (q1, true), (q2, true), (q49, true), (q48, false), (q46, false), (q47, true), (q45, false), (q37, false), (q38, true), (q6, false)]
theorem start271_yes : lawStart0 lawPc271 = true := by kernel_rfl
def lawPc283 : Pc := [(q8, true), (q9, true), (q2, false), (q50, true), (q49, false), (q48, false), (q46, false), (q47, true), (q45, false), (q37, false), (q38, true), (q6, false)]
theorem start283_yes : lawStart4 lawPc283 = true := by kernel_rfl
def lawPc295 : Pc := [(q0, true), (q1, true), (q2, true), (q52, true), (q51, false), (q50, false), (q49, false), (q48, false), (q46, false), (q47, true), (q45, false), (q37, false), (q38, true), (q6, false)]
theorem start295_yes : lawStart0 lawPc295 = true := by kernel_rfl
def lawPc307 : Pc := [(q8, true), (q9, true), (q2, false), (q53, true), (q52, false), (q51, false), (q50, false), (q49, false), (q48, false), (q46, false), (q47, true), (q45, false), (q37, false), (q38, true), (q6, false)]
theorem start307_yes : lawStart4 lawPc307 = true := by kernel_rfl
def lawPc319 : Pc := [((.eq (.var 31 0 65535) (.lit 951)), false), ((.eq (.var 31 0 65535) (.lit 950)), false), ((.eq (.var 31 0 65535) (.lit 949)), false), ((.eq (.var 31 0 65535) (.lit 948)), false), ((.eq (.var 31 0 65535) (.lit 947)), false), ((.eq (.var 31 0 65535) (.lit 946)), false), ((.eq (.var 31 0 65535) (.lit 945)), false), ((.eq (.var 31 0 65535) (.lit 944)), false), ((.lt (.var 31 0 65535) (.lit 952)), true), ((.lt (.var 31 0 65535) (.lit 944)), false), ((.lt (.var 31 0 65535) (.lit 929)), false), ((.lt (.var 31 0 65535) (.lit 2816)), true), ((.lt (.var 31 0 65535) (.lit 832)), false)]
theorem x319_no (i : Nat → Int) (hh : Holds i lawPc319) : False := by
  have h0 := hh _ _ (.head _)
  have h1 := hh _ _ (.tail _ (.head _))
  have h2 := hh _ _ (.tail _ (.tail _ (.head _)))
  have h3 := hh _ _ (.tail _ (.tail _ (.tail _ (.head _))))
  have h4 := hh _ _ (.tail _ (.tail _ (.tail _ (.tail _ (.head _)))))
  have h5 := hh _ _ (.tail _ (.tail _ (.tail _ (.tail _ (.tail _ (.head _))))))
  have h6 := hh _ _ (.tail _ (.tail _ (.tail _ (.tail _ (.tail _ (.tail _ (.head _)))))))
  have h7 := hh _ _ (.tail _ (.tail _ (.tail _ (.tail _ (.tail _ (.tail _ (.tail _ (.head _))))))))
  have h8 := hh _ _ (.tail _ (.tail _ (.tail _ (.tail _ (.tail _ (.tail _ (.tail _ (.tail _ (.head _)))))))))
  have h9 := hh _ _ (.tail _ (.tail _ (.tail _ (.tail _ (.tail _ (.tail _ (.tail _ (.tail _ (.tail _ (.head _))))))))))
  have h10 := hh _ _ (.tail _ (.tail _ (.tail _ (.tail _ (.tail _ (.tail _ (.tail _ (.tail _ (.tail _ (.tail _ (.head _)))))))))))
  have h11 := hh _ _ (.tail _ (.tail _ (.tail _ (.tail _ (.tail _ (.tail _ (.tail _ (.tail _ (.tail _ (.tail _ (.tail _ (.head _))))))))))))
  have h12 := hh _ _ (.tail _ (.tail _ (.tail _ (.tail _ (.tail _ (.tail _ (.tail _ (.tail _ (.tail _ (.tail _ (.tail _ (.tail _ (.head _)))))))))))))
  clear hh
  simp only [N.den, true_iff, Bool.false_eq_true, false_iff, bI_ne, ieq_iff, ilt_iff, Classical.not_not, ne_eq] at h0 h1 h2 h3 h4 h5 h6 h7 h8 h9 h10 h11 h12
  omega
def lawPc331 : Pc := [(q7, false), (q1, false), (q2, true), (q55, true), (q56, true), (q57, true), (q38, false), (q6, false)]
theorem start331_yes : lawStart3 lawPc331 = true := by kernel_rfl
def lawPc343 : Pc := [(q10, false), (q9, false), (q2, false), (q58, true), (q55, false), (q56, true), (q57, true), (q38, false), (q6, false)]
theorem start343_yes : lawStart7 lawPc343 = true := by kernel_rfl
def lawPc355 : Pc := [(q7, false), (q1, false), (q2, true), (q59, true), (q56, false), (q57, true), (q38, false), (q6, false)]
theorem start355_yes : lawStart3 lawPc355 = true := by kernel_rfl
def lawPc367 : Pc := [(q10, false), (q9, false), (q2, false), (q60, true), (q59, false), (q56, false), (q57, true), (q38, false), (q6, false)]
theorem start367_yes : lawStart7 lawPc367 = true := by kernel_rfl
def lawPc379 : Pc := [(q7, false), (q1, false), (q2, true), (q62, true), (q61, false), (q60, false), (q59, false), (q56, false), (q57, true), (q38, false), (q6, false)]
theorem start379_yes : lawStart3 lawPc379 = true := by kernel_rfl
def lawPc391 : Pc := [(q10, true), (q9, false), (q2, false), (q63, true), (q57, false), (q38, false), (q6, false)]
theorem start391_yes : lawStart6 lawPc391 = true := by kernel_rfl
def lawPc403 : Pc := [(q7, true), (q1, false), (q2, true), (q66, true), (q64, false), (q65, true), (q63, false), (q57, false), (q38, false), (q6, false)]
theorem start403_yes : lawStart2 lawPc403 = true := by kernel_rfl
def lawPc415 : Pc := [(q10, true), (q9, false), (q2, false), (q67, true), (q66, false), (q64, false), (q65, true), (q63, false), (q57, false), (q38, false), (q6, false)]
theorem start415_yes : lawStart6 lawPc415 = true := by kernel_rfl
def lawPc427 : Pc := [(q0, false), (q1, true), (q2, true), (q65, false), (q63, false), (q57, false), (q38, false), (q6, false)]
theorem start427_yes : lawStart1 lawPc427 = true := by kernel_rfl
end
end Go.Proofs.YtffhbmkpcenkoaaDoor.Sx
