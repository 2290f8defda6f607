/- CsrApart: a part of its cases. -/
import Derived.Test.YtffhbmkpcenkoaaDoorUCsrApart
set_option linter.unusedVariables false
set_option linter.unusedSimpArgs false
namespace Go.Proofs.YtffhbmkpcenkoaaDoor.Sx
open Go
noncomputable section
set_option maxRecDepth 100000
def lawPc5 : Pc := [(q8, false), (q9, true), (q2, false), (q3, true), (q4, true), (q5, true), (q6, true)]
theorem start5_yes : lawStart5 lawPc5 = true := by kernel_rfl
def lawPc17 : Pc := [(q0, true), (q1, true), (q2, true), (q12, true), (q4, false), (q5, true), (q6, true)]
theorem start17_yes : lawStart0 lawPc17 = true := by kernel_rfl
def lawPc29 : Pc := [(q8, true), (q9, true), (q2, false), (q13, true), (q14, true), (q12, false), (q4, false), (q5, true), (q6, true)]
theorem start29_yes : lawStart4 lawPc29 = true := by kernel_rfl
def lawPc41 : Pc := [(q0, true), (q1, true), (q2, true), (q16, true), (q15, false), (q13, false), (q14, true), (q12, false), (q4, false), (q5, true), (q6, true)]
theorem start41_yes : lawStart0 lawPc41 = true := by kernel_rfl
def lawPc53 : Pc := [(q7, false), (q1, false), (q2, true), (q14, false), (q12, false), (q4, false), (q5, true), (q6, true)]
theorem start53_yes : lawStart3 lawPc53 = true := by kernel_rfl
def lawPc65 : Pc := [(q10, false), (q9, false), (q2, false), (q17, true), (q18, true), (q19, true), (q5, false), (q6, true)]
theorem start65_yes : lawStart7 lawPc65 = true := by kernel_rfl
def lawPc77 : Pc := [(q7, false), (q1, false), (q2, true), (q21, true), (q20, false), (q17, false), (q18, true), (q19, true), (q5, false), (q6, true)]
theorem start77_yes : lawStart3 lawPc77 = true := by kernel_rfl
def lawPc89 : Pc := [(q10, false), (q9, false), (q2, false), (q22, true), (q21, false), (q20, false), (q17, false), (q18, true), (q19, true), (q5, false), (q6, true)]
theorem start89_yes : lawStart7 lawPc89 = true := by kernel_rfl
def lawPc101 : Pc := [(q7, true), (q1, false), (q2, true), (q24, true), (q18, false), (q19, true), (q5, false), (q6, true)]
theorem start101_yes : lawStart2 lawPc101 = true := by kernel_rfl
def lawPc113 : Pc := [(q10, true), (q9, false), (q2, false), (q25, true), (q24, false), (q18, false), (q19, true), (q5, false), (q6, true)]
theorem start113_yes : lawStart6 lawPc113 = true := by kernel_rfl
def lawPc125 : Pc := [(q0, false), (q1, true), (q2, true), (q27, true), (q28, true), (q26, false), (q19, false), (q5, false), (q6, true)]
theorem start125_yes : lawStart1 lawPc125 = true := by kernel_rfl
def lawPc137 : Pc := [(q8, false), (q9, true), (q2, false), (q29, true), (q27, false), (q28, true), (q26, false), (q19, false), (q5, false), (q6, true)]
theorem start137_yes : lawStart5 lawPc137 = true := by kernel_rfl
def lawPc149 : Pc := [(q0, false), (q1, true), (q2, true), (q31, true), (q30, false), (q29, false), (q27, false), (q28, true), (q26, false), (q19, false), (q5, false), (q6, true)]
theorem start149_yes : lawStart1 lawPc149 = true := by kernel_rfl
def lawPc161 : Pc := [(q8, false), (q9, true), (q2, false), (q32, true), (q31, false), (q30, false), (q29, false), (q27, false), (q28, true), (q26, false), (q19, false), (q5, false), (q6, true)]
theorem start161_yes : lawStart5 lawPc161 = true := by kernel_rfl
def lawPc173 : Pc := [(q0, false), (q1, true), (q2, true), (q34, true), (q33, false), (q32, false), (q31, false), (q30, false), (q29, false), (q27, false), (q28, true), (q26, false), (q19, false), (q5, false), (q6, true)]
theorem start173_yes : lawStart1 lawPc173 = true := by kernel_rfl
def lawPc185 : Pc := [(q8, true), (q9, true), (q2, false), (q28, false), (q26, false), (q19, false), (q5, false), (q6, true)]
theorem start185_yes : lawStart4 lawPc185 = true := by kernel_rfl
def lawPc197 : Pc := [(q0, true), (q1, true), (q2, true), (q39, true), (q35, false), (q36, true), (q37, true), (q38, true), (q6, false)]
theorem start197_yes : lawStart0 lawPc197 = true := by kernel_rfl
def lawPc209 : Pc := [(q8, true), (q9, true), (q2, false), (q40, true), (q39, false), (q35, false), (q36, true), (q37, true), (q38, true), (q6, false)]
theorem start209_yes : lawStart4 lawPc209 = true := by kernel_rfl
def lawPc221 : Pc := [(q0, true), (q1, true), (q2, true), (q42, true), (q41, false), (q40, false), (q39, false), (q35, false), (q36, true), (q37, true), (q38, true), (q6, false)]
theorem start221_yes : lawStart0 lawPc221 = true := by kernel_rfl
def lawPc233 : Pc := [(q7, false), (q1, false), (q2, true), (q43, true), (q36, false), (q37, true), (q38, true), (q6, false)]
theorem start233_yes : lawStart3 lawPc233 = true := by kernel_rfl
def lawPc245 : Pc := [(q10, false), (q9, false), (q2, false), (q44, true), (q43, false), (q36, false), (q37, true), (q38, true), (q6, false)]
theorem start245_yes : lawStart7 lawPc245 = true := by kernel_rfl
def lawPc257 : Pc := [(q7, true), (q1, false), (q2, true), (q46, true), (q47, true), (q45, false), (q37, false), (q38, true), (q6, false)]
theorem start257_yes : lawStart2 lawPc257 = true := by kernel_rfl
def lawPc269 : Pc := [(q10, true), (q9, false), (q2, false), (q48, true), (q46, false), (q47, true), (q45, false), (q37, false), (q38, true), (q6, false)]
theorem start269_yes : lawStart6 lawPc269 = true := by kernel_rfl
def lawPc281 : Pc := [(q7, true), (q1, false), (q2, true), (q50, true), (q49, false), (q48, false), (q46, false), (q47, true), (q45, false), (q37, false), (q38, true), (q6, false)]
theorem start281_yes : lawStart2 lawPc281 = true := by kernel_rfl
def lawPc293 : Pc := [(q10, true), (q9, false), (q2, false), (q51, true), (q50, false), (q49, false), (q48, false), (q46, false), (q47, true), (q45, false), (q37, false), (q38, true), (q6, false)]
theorem start293_yes : lawStart6 lawPc293 = true := by kernel_rfl
def lawPc305 : Pc := [(q7, true), (q1, false), (q2, true), (q53, true), (q52, false), (q51, false), (q50, false), (q49, false), (q48, false), (q46, false), (q47, true), (q45, false), (q37, false), (q38, true), (q6, false)]
theorem start305_yes : lawStart2 lawPc305 = true := by kernel_rfl
def lawPc317 : Pc := [(q10, true), (q9, false), (q2, false), (q54, true), (q53, false), (q52, false), (q51, false), (q50, false), (q49, false), (q48, false), (q46, false), (q47, true), (q45, false), (q37, false), (q38, true), (q6, false)]
theorem start317_yes : lawStart6 lawPc317 = true := by kernel_rfl
def lawPc329 : Pc := [(q0, false), (q1, true), (q2, true), (q55, true), (q56, true), (q57, true), (q38, false), (q6, false)]
theorem start329_yes : lawStart1 lawPc329 = true := by kernel_rfl
def lawPc341 : Pc := [(q8, false), (q9, true), (q2, false), (q58, true), (q55, false), (q56, true), (q57, true), (q38, false), (q6, false)]
theorem start341_yes : lawStart5 lawPc341 = true := by kernel_rfl
def lawPc353 : Pc := [(q0, false), (q1, true), (q2, true), (q59, true), (q56, false), (q57, true), (q38, false), (q6, false)]
theorem start353_yes : lawStart1 lawPc353 = true := by kernel_rfl
def lawPc365 : Pc := [(q8, false), (q9, true), (q2, false), (q60, true), (q59, false), (q56, false), (q57, true), (q38, false), (q6, false)]
theorem start365_yes : lawStart5 lawPc365 = true := by kernel_rfl
def lawPc377 : Pc := [(q0, false), (q1, true), (q2, true), (q62, true), (q61, false), (q60, false), (q59, false), (q56, false), (q57, true), (q38, false), (q6, false)]
theorem start377_yes : lawStart1 lawPc377 = true := by kernel_rfl
def lawPc389 : Pc := [(q8, true), (q9, true), (q2, false), (q63, true), (q57, false), (q38, false), (q6, false)]
theorem start389_yes : lawStart4 lawPc389 = true := by kernel_rfl
def lawPc401 : Pc := [(q0, true), (q1, true), (q2, true), (q66, true), (q64, false), (q65, true), (q63, false), (q57, false), (q38, false), (q6, false)]
theorem start401_yes : lawStart0 lawPc401 = true := by kernel_rfl
def lawPc413 : Pc := [(q8, true), (q9, true), (q2, false), (q67, true), (q66, false), (q64, false), (q65, true), (q63, false), (q57, false), (q38, false), (q6, false)]
theorem start413_yes : lawStart4 lawPc413 = true := by kernel_rfl
def lawPc425 : Pc := [((.eq (.var 31 0 65535) (.lit 3860)), false), ((.eq (.var 31 0 65535) (.lit 3859)), false), ((.eq (.var 31 0 65535) (.lit 3858)), false), ((.eq (.var 31 0 65535) (.lit 3857)), false), ((.lt (.var 31 0 65535) (.lit 3861)), true), ((.lt (.var 31 0 65535) (.lit 3857)), false), ((.lt (.var 31 0 65535) (.lit 3075)), false), ((.lt (.var 31 0 65535) (.lit 2816)), false), ((.lt (.var 31 0 65535) (.lit 832)), false)]
theorem x425_no (i : Nat → Int) (hh : Holds i lawPc425) : False := by
  have h0 := hh _ _ (.head _)
  have h1 := hh _ _ (.tail _ (.head _))
  have h2 := hh _ _ (.tail _ (.tail _ (.head _)))
  have h3 := hh _ _ (.tail _ (.tail _ (.tail _ (.head _))))
  have h4 := hh _ _ (.tail _ (.tail _ (.tail _ (.tail _ (.head _)))))
  have h5 := hh _ _ (.tail _ (.tail _ (.tail _ (.tail _ (.tail _ (.head _))))))
  have h6 := hh _ _ (.tail _ (.tail _ (.tail _ (.tail _ (.tail _ (.tail _ (.head _)))))))
  have h7 := hh _ _ (.tail _ (.tail _ (.tail _ (.tail _ (.tail _ (.tail _ (.tail _ (.head _))))))))
  have h8 := hh _ _ (.tail _ (.tail _ (.tail _ (.tail _ (.tail _ (.tail _ (.tail _ (.tail _ (.head _)))))))))
  clear hh
  simp only [N.den, true_iff, Bool.false_eq_true, false_iff, bI_ne, ieq_iff, ilt_iff, Classical.not_not, ne_eq] at h0 h1 h2 h3 h4 h5 h6 h7 h8
  omega
end
end Go.Proofs.YtffhbmkpcenkoaaDoor.Sx
