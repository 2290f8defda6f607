/- CsrApart: a part of its cases. -/
import Derived.Test.YtffhbmkpcenkoaaDoorUCsrApart
set_option linter.unusedVariables false
set_option linter.unusedSimpArgs false
namespace Go.Proofs.YtffhbmkpcenkoaaDoor.Sx
open Go
noncomputable section
set_option maxRecDepth 100000
def lawPc2 : Pc := [(q7, true), (q1, false), (q2, true), (q3, true), (q4, true), (q5, true), (q6, true)]
theorem start2_yes : lawStart2 lawPc2 = true := by kernel_rfl
def lawPc14 : Pc := [(q10, true), (q9, false), (q2, false), (q11, true), (q3, false), (q4, true), (q5, true), (q6, true)]
theorem start14_yes : lawStart6 lawPc14 = true := by kernel_rfl
def lawPc26 : Pc := [(q0, false), (q1, true), (q2, true), (q13, true), (q14, true), (q12, false), (q4, false), (q5, true), (q6, true)]
theorem start26_yes : lawStart1 lawPc26 = true := by kernel_rfl
def lawPc38 : Pc := [(q8, false), (q9, true), (q2, false), (q15, true), (q13, false), (q14, true), (q12, false), (q4, false), (q5, true), (q6, true)]
theorem start38_yes : lawStart5 lawPc38 = true := by kernel_rfl
def lawPc50 : Pc := [(q0, true), (q1, true), (q2, true), (q14, false), (q12, false), (q4, false), (q5, true), (q6, true)]
theorem start50_yes : lawStart0 lawPc50 = true := by kernel_rfl
def lawPc62 : Pc := [(q8, true), (q9, true), (q2, false), (q17, true), (q18, true), (q19, true), (q5, false), (q6, true)]
theorem start62_yes : lawStart4 lawPc62 = true := by kernel_rfl
def lawPc74 : Pc := [(q0, true), (q1, true), (q2, true), (q21, true), (q20, false), (q17, false), (q18, true), (q19, true), (q5, false), (q6, true)]
theorem start74_yes : lawStart0 lawPc74 = true := by kernel_rfl
def lawPc86 : Pc := [(q8, true), (q9, true), (q2, false), (q22, true), (q21, false), (q20, false), (q17, false), (q18, true), (q19, true), (q5, false), (q6, true)]
theorem start86_yes : lawStart4 lawPc86 = true := by kernel_rfl
def lawPc98 : Pc := [((.eq (.var 31 0 65535) (.lit 324)), false), ((.eq (.var 31 0 65535) (.lit 323)), false), ((.eq (.var 31 0 65535) (.lit 322)), false), ((.eq (.var 31 0 65535) (.lit 321)), false), ((.eq (.var 31 0 65535) (.lit 320)), false), ((.lt (.var 31 0 65535) (.lit 325)), true), ((.lt (.var 31 0 65535) (.lit 385)), true), ((.lt (.var 31 0 65535) (.lit 320)), false), ((.lt (.var 31 0 65535) (.lit 832)), true)]
theorem x98_no (i : Nat → Int) (hh : Holds i lawPc98) : False := by
  have h0 := hh _ _ (.head _)
  have h1 := hh _ _ (.tail _ (.head _))
  have h2 := hh _ _ (.tail _ (.tail _ (.head _)))
  have h3 := hh _ _ (.tail _ (.tail _ (.tail _ (.head _))))
  have h4 := hh _ _ (.tail _ (.tail _ (.tail _ (.tail _ (.head _)))))
  have h5 := hh _ _ (.tail _ (.tail _ (.tail _ (.tail _ (.tail _ (.head _))))))
  have h6 := hh _ _ (.tail _ (.tail _ (.tail _ (.tail _ (.tail _ (.tail _ (.head _)))))))
  have h7 := hh _ _ (.tail _ (.tail _ (.tail _ (.tail _ (.tail _ (.tail _ (.tail _ (.head _))))))))
  have h8 := hh _ _ (.tail _ (.tail _ (.tail _ (.tail _ (.tail _ (.tail _ (.tail _ (.tail _ (.head _)))))))))
  clear hh
  simp only [N.den, true_iff, Bool.false_eq_true, false_iff, bI_ne, ieq_iff, ilt_iff, Classical.not_not, ne_eq] at h0 h1 h2 h3 h4 h5 h6 h7 h8
  omega
def lawPc110 : Pc := [(q7, false), (q1, false), (q2, true), (q25, true), (q24, false), (q18, false), (q19, true), (q5, false), (q6, true)]
theorem start110_yes : lawStart3 lawPc110 = true := by kernel_rfl
def lawPc122 : Pc := [(q10, true), (q9, false), (q2, false), (q26, true), (q19, false), (q5, false), (q6, true)]
theorem start122_yes : lawStart6 lawPc122 = true := by kernel_rfl
def lawPc134 : Pc := [(q7, true), (q1, false), (q2, true), (q29, true), (q27, false), (q28, true), (q26, false), (q19, false), (q5, false), (q6, true)]
theorem start134_yes : lawStart2 lawPc134 = true := by kernel_rfl
def lawPc146 : Pc := [(q10, true), (q9, false), (q2, false), (q30, true), (q29, false), (q27, false), (q28, true), (q26, false), (q19, false), (q5, false), (q6, true)]
theorem start146_yes : lawStart6 lawPc146 = true := by kernel_rfl
def lawPc158 : Pc := [(q7, true), (q1, false), (q2, true), (q32, true), (q31, false), (q30, false), (q29, false), (q27, false), (q28, true), (q26, false), (q19, false), (q5, false), (q6, true)]
theorem start158_yes : lawStart2 lawPc158 = true := by kernel_rfl
def lawPc170 : Pc := [(q10, true), (q9, false), (q2, false), (q33, true), (q32, false), (q31, false), (q30, false), (q29, false), (q27, false), (q28, true), (q26, false), (q19, false), (q5, false), (q6, true)]
theorem start170_yes : lawStart6 lawPc170 = true := by kernel_rfl
def lawPc182 : Pc := [(q0, false), (q1, true), (q2, true), (q28, false), (q26, false), (q19, false), (q5, false), (q6, true)]
theorem start182_yes : lawStart1 lawPc182 = true := by kernel_rfl
def lawPc194 : Pc := [(q8, false), (q9, true), (q2, false), (q35, true), (q36, true), (q37, true), (q38, true), (q6, false)]
theorem start194_yes : lawStart5 lawPc194 = true := by kernel_rfl
def lawPc206 : Pc := [(q0, false), (q1, true), (q2, true), (q40, true), (q39, false), (q35, false), (q36, true), (q37, true), (q38, true), (q6, false)]
theorem start206_yes : lawStart1 lawPc206 = true := by kernel_rfl
def lawPc218 : Pc := [(q8, false), (q9, true), (q2, false), (q41, true), (q40, false), (q39, false), (q35, false), (q36, true), (q37, true), (q38, true), (q6, false)]
theorem start218_yes : lawStart5 lawPc218 = true := by kernel_rfl
def lawPc230 : Pc := [(q0, true), (q1, true), (q2, true), (q43, true), (q36, false), (q37, true), (q38, true), (q6, false)]
theorem start230_yes : lawStart0 lawPc230 = true := by kernel_rfl
def lawPc242 : Pc := [(q8, true), (q9, true), (q2, false), (q44, true), (q43, false), (q36, false), (q37, true), (q38, true), (q6, false)]
theorem start242_yes : lawStart4 lawPc242 = true := by kernel_rfl
def lawPc254 : Pc := [(q10, false), (q9, false), (q2, false), (q45, true), (q37, false), (q38, true), (q6, false)]
theorem start254_yes : lawStart7 lawPc254 = true := by kernel_rfl
def lawPc266 : Pc := [(q7, false), (q1, false), (q2, true), (q48, true), (q46, false), (q47, true), (q45, false), (q37, false), (q38, true), (q6, false)]
theorem start266_yes : lawStart3 lawPc266 = true := by kernel_rfl
def lawPc278 : Pc := [(q10, false), (q9, false), (q2, false), (q49, true), (q48, false), (q46, false), (q47, true), (q45, false), (q37, false), (q38, true), (q6, false)]
theorem start278_yes : lawStart7 lawPc278 = true := by kernel_rfl
def lawPc290 : Pc := [(q7, false), (q1, false), (q2, true), (q51, true), (q50, false), (q49, false), (q48, false), (q46, false), (q47, true), (q45, false), (q37, false), (q38, true), (q6, false)]
theorem start290_yes : lawStart3 lawPc290 = true := by kernel_rfl
def lawPc302 : Pc := [(q10, false), (q9, false), (q2, false), (q52, true), (q51, false), (q50, false), (q49, false), (q48, false), (q46, false), (q47, true), (q45, false), (q37, false), (q38, true), (q6, false)]
theorem start302_yes : lawStart7 lawPc302 = true := by kernel_rfl
def lawPc314 : Pc := [(q7, false), (q1, false), (q2, true), (q54, true), (q53, false), (q52, false), (q51, false), (q50, false), (q49, false), (q48, false), (q46, false), (q47, true), (q45, false), (q37, false), (q38, true), (q6, false)]
theorem start314_yes : lawStart3 lawPc314 = true := by kernel_rfl
def lawPc326 : Pc := [(q10, true), (q9, false), (q2, false), (q47, false), (q45, false), (q37, false), (q38, true), (q6, false)]
theorem start326_yes : lawStart6 lawPc326 = true := by kernel_rfl
def lawPc338 : Pc := [(q7, true), (q1, false), (q2, true), (q58, true), (q55, false), (q56, true), (q57, true), (q38, false), (q6, false)]
theorem start338_yes : lawStart2 lawPc338 = true := by kernel_rfl
def lawPc350 : Pc := [(q10, true), (q9, false), (q2, false), (q58, false), (q55, false), (q56, true), (q57, true), (q38, false), (q6, false)]
theorem start350_yes : lawStart6 lawPc350 = true := by kernel_rfl
def lawPc362 : Pc := [(q7, true), (q1, false), (q2, true), (q60, true), (q59, false), (q56, false), (q57, true), (q38, false), (q6, false)]
theorem start362_yes : lawStart2 lawPc362 = true := by kernel_rfl
def lawPc374 : Pc := [(q10, true), (q9, false), (q2, false), (q61, true), (q60, false), (q59, false), (q56, false), (q57, true), (q38, false), (q6, false)]
theorem start374_yes : lawStart6 lawPc374 = true := by kernel_rfl
def lawPc386 : Pc := [(q0, false), (q1, true), (q2, true), (q63, true), (q57, false), (q38, false), (q6, false)]
theorem start386_yes : lawStart1 lawPc386 = true := by kernel_rfl
def lawPc398 : Pc := [(q8, false), (q9, true), (q2, false), (q64, true), (q65, true), (q63, false), (q57, false), (q38, false), (q6, false)]
theorem start398_yes : lawStart5 lawPc398 = true := by kernel_rfl
def lawPc410 : Pc := [(q0, false), (q1, true), (q2, true), (q67, true), (q66, false), (q64, false), (q65, true), (q63, false), (q57, false), (q38, false), (q6, false)]
theorem start410_yes : lawStart1 lawPc410 = true := by kernel_rfl
def lawPc422 : Pc := [(q8, false), (q9, true), (q2, false), (q68, true), (q67, false), (q66, false), (q64, false), (q65, true), (q63, false), (q57, false), (q38, false), (q6, false)]
theorem start422_yes : lawStart5 lawPc422 = true := by kernel_rfl
end
end Go.Proofs.YtffhbmkpcenkoaaDoor.Sx
