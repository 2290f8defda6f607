/- CsrApart: a part of its cases. -/
import Derived.Test.YtffhbmkpcenkoaaDoorUCsrApart
set_option linter.unusedVariables false
set_option linter.unusedSimpArgs false
namespace Go.Proofs.YtffhbmkpcenkoaaDoor.Sx
open Go
noncomputable section
set_option maxRecDepth 100000
def lawPc1 : Pc := [(q0, false), (q1, true), (q2, true), (q3, true), (q4, true), (q5, true), (q6, true)]
theorem start1_yes : lawStart1 lawPc1 = true := by kernel_rfl
def lawPc13 : Pc := [(q8, false), (q9, true), (q2, false), (q11, true), (q3, false), (q4, true), (q5, true), (q6, true)]
theorem start13_yes : lawStart5 lawPc13 = true := by kernel_rfl
def lawPc25 : Pc := [(q0, true), (q1, true), (q2, true), (q13, true), (q14, true), (q12, false), (q4, false), (q5, true), (q6, true)]
theorem start25_yes : lawStart0 lawPc25 = true := by kernel_rfl
def lawPc37 : Pc := [(q8, true), (q9, true), (q2, false), (q15, true), (q13, false), (q14, true), (q12, false), (q4, false), (q5, true), (q6, true)]
theorem start37_yes : lawStart4 lawPc37 = true := by kernel_rfl
def lawPc49 : Pc := [((.eq (.var 31 0 65535) (.lit 262)), false), ((.eq (.var 31 0 65535) (.lit 261)), false), ((.eq (.var 31 0 65535) (.lit 260)), false), ((.lt (.var 31 0 65535) (.lit 263)), true), ((.lt (.var 31 0 65535) (.lit 260)), false), ((.lt (.var 31 0 65535) (.lit 257)), false), ((.lt (.var 31 0 65535) (.lit 320)), true), ((.lt (.var 31 0 65535) (.lit 832)), true)]
theorem x49_no (i : Nat → Int) (hh : Holds i lawPc49) : False := by
  have h0 := hh _ _ (.head _)
  have h1 := hh _ _ (.tail _ (.head _))
  have h2 := hh _ _ (.tail _ (.tail _ (.head _)))
  have h3 := hh _ _ (.tail _ (.tail _ (.tail _ (.head _))))
  have h4 := hh _ _ (.tail _ (.tail _ (.tail _ (.tail _ (.head _)))))
  have h5 := hh _ _ (.tail _ (.tail _ (.tail _ (.tail _ (.tail _ (.head _))))))
  have h6 := hh _ _ (.tail _ (.tail _ (.tail _ (.tail _ (.tail _ (.tail _ (.head _)))))))
  have h7 := hh _ _ (.tail _ (.tail _ (.tail _ (.tail _ (.tail _ (.tail _ (.tail _ (.head _))))))))
  clear hh
  simp only [N.den, true_iff, Bool.false_eq_true, false_iff, bI_ne, ieq_iff, ilt_iff, Classical.not_not, ne_eq] at h0 h1 h2 h3 h4 h5 h6 h7
  omega
def lawPc61 : Pc := [(q7, false), (q1, false), (q2, true), (q17, true), (q18, true), (q19, true), (q5, false), (q6, true)]
theorem start61_yes : lawStart3 lawPc61 = true := by kernel_rfl
def lawPc73 : Pc := [(q10, false), (q9, false), (q2, false), (q20, true), (q17, false), (q18, true), (q19, true), (q5, false), (q6, true)]
theorem start73_yes : lawStart7 lawPc73 = true := by kernel_rfl
def lawPc85 : Pc := [(q7, false), (q1, false), (q2, true), (q22, true), (q21, false), (q20, false), (q17, false), (q18, true), (q19, true), (q5, false), (q6, true)]
theorem start85_yes : lawStart3 lawPc85 = true := by kernel_rfl
def lawPc97 : Pc := [(q10, false), (q9, false), (q2, false), (q23, true), (q22, false), (q21, false), (q20, false), (q17, false), (q18, true), (q19, true), (q5, false), (q6, true)]
theorem start97_yes : lawStart7 lawPc97 = true := by kernel_rfl
def lawPc109 : Pc := [(q7, true), (q1, false), (q2, true), (q25, true), (q24, false), (q18, false), (q19, true), (q5, false), (q6, true)]
theorem start109_yes : lawStart2 lawPc109 = true := by kernel_rfl
def lawPc121 : Pc := [(q8, false), (q9, true), (q2, false), (q26, true), (q19, false), (q5, false), (q6, true)]
theorem start121_yes : lawStart5 lawPc121 = true := by kernel_rfl
def lawPc133 : Pc := [(q0, false), (q1, true), (q2, true), (q29, true), (q27, false), (q28, true), (q26, false), (q19, false), (q5, false), (q6, true)]
theorem start133_yes : lawStart1 lawPc133 = true := by kernel_rfl
def lawPc145 : Pc := [(q8, false), (q9, true), (q2, false), (q30, true), (q29, false), (q27, false), (q28, true), (q26, false), (q19, false), (q5, false), (q6, true)]
theorem start145_yes : lawStart5 lawPc145 = true := by kernel_rfl
def lawPc157 : Pc := [(q0, false), (q1, true), (q2, true), (q32, true), (q31, false), (q30, false), (q29, false), (q27, false), (q28, true), (q26, false), (q19, false), (q5, false), (q6, true)]
theorem start157_yes : lawStart1 lawPc157 = true := by kernel_rfl
def lawPc169 : Pc := [(q8, false), (q9, true), (q2, false), (q33, true), (q32, false), (q31, false), (q30, false), (q29, false), (q27, false), (q28, true), (q26, false), (q19, false), (q5, false), (q6, true)]
theorem start169_yes : lawStart5 lawPc169 = true := by kernel_rfl
def lawPc181 : Pc := [(q0, true), (q1, true), (q2, true), (q28, false), (q26, false), (q19, false), (q5, false), (q6, true)]
theorem start181_yes : lawStart0 lawPc181 = true := by kernel_rfl
def lawPc193 : Pc := [(q8, true), (q9, true), (q2, false), (q35, true), (q36, true), (q37, true), (q38, true), (q6, false)]
theorem start193_yes : lawStart4 lawPc193 = true := by kernel_rfl
def lawPc205 : Pc := [(q0, true), (q1, true), (q2, true), (q40, true), (q39, false), (q35, false), (q36, true), (q37, true), (q38, true), (q6, false)]
theorem start205_yes : lawStart0 lawPc205 = true := by kernel_rfl
def lawPc217 : Pc := [(q8, true), (q9, true), (q2, false), (q41, true), (q40, false), (q39, false), (q35, false), (q36, true), (q37, true), (q38, true), (q6, false)]
theorem start217_yes : lawStart4 lawPc217 = true := by kernel_rfl
def lawPc229 : Pc := [((.eq (.var 31 0 65535) (.lit 836)), false), ((.eq (.var 31 0 65535) (.lit 835)), false), ((.eq (.var 31 0 65535) (.lit 834)), false), ((.eq (.var 31 0 65535) (.lit 833)), false), ((.eq (.var 31 0 65535) (.lit 832)), false), ((.lt (.var 31 0 65535) (.lit 837)), true), ((.lt (.var 31 0 65535) (.lit 929)), true), ((.lt (.var 31 0 65535) (.lit 2816)), true), ((.lt (.var 31 0 65535) (.lit 832)), false)]
theorem x229_no (i : Nat → Int) (hh : Holds i lawPc229) : False := by
  have h0 := hh _ _ (.head _)
  have h1 := hh _ _ (.tail _ (.head _))
  have h2 := hh _ _ (.tail _ (.tail _ (.head _)))
  have h3 := hh _ _ (.tail _ (.tail _ (.tail _ (.head _))))
  have h4 := hh _ _ (.tail _ (.tail _ (.tail _ (.tail _ (.head _)))))
  have h5 := hh _ _ (.tail _ (.tail _ (.tail _ (.tail _ (.tail _ (.head _))))))
  have h6 := hh _ _ (.tail _ (.tail _ (.tail _ (.tail _ (.tail _ (.tail _ (.head _)))))))
  have h7 := hh _ _ (.tail _ (.tail _ (.tail _ (.tail _ (.tail _ (.tail _ (.tail _ (.head _))))))))
  have h8 := hh _ _ (.tail _ (.tail _ (.tail _ (.tail _ (.tail _ (.tail _ (.tail _ (.tail _ (.head _)))))))))
  clear hh
  simp only [N.den, true_iff, Bool.false_eq_true, false_iff, bI_ne, ieq_iff, ilt_iff, Classical.not_not, ne_eq] at h0 h1 h2 h3 h4 h5 h6 h7 h8
  omega
def lawPc241 : Pc := [(q7, false), (q1, false), (q2, true), (q44, true), (q43, false), (q36, false), (q37, true), (q38, true), (q6, false)]
theorem start241_yes : lawStart3 lawPc241 = true := by kernel_rfl
def lawPc253 : Pc := [(q10, true), (q9, false), (q2, false), (q45, true), (q37, false), (q38, true), (q6, false)]
theorem start253_yes : lawStart6 lawPc253 = true := by kernel_rfl
def lawPc265 : Pc := [(q7, true), (q1, false), (q2, true), (q48, true), (q46, false), (q47, true), (q45, false), (q37, false), (q38, true), (q6, false)]
theorem start265_yes : lawStart2 lawPc265 = true := by kernel_rfl
def lawPc277 : Pc := [(q10, true), (q9, false), (q2, false), (q49, true), (q48, false), (q46, false), (q47, true), (q45, false), (q37, false), (q38, true), (q6, false)]
theorem start277_yes : lawStart6 lawPc277 = true := by kernel_rfl
def lawPc289 : Pc := [(q7, true), (q1, false), (q2, true), (q51, true), (q50, false), (q49, false), (q48, false), (q46, false), (q47, true), (q45, false), (q37, false), (q38, true), (q6, false)]
theorem start289_yes : lawStart2 lawPc289 = true := by kernel_rfl
def lawPc301 : Pc := [(q10, true), (q9, false), (q2, false), (q52, true), (q51, false), (q50, false), (q49, false), (q48, false), (q46, false), (q47, true), (q45, false), (q37, false), (q38, true), (q6, false)]
theorem start301_yes : lawStart6 lawPc301 = true := by kernel_rfl
def lawPc313 : Pc := [(q7, true), (q1, false), (q2, true), (q54, true), (q53, false), (q52, false), (q51, false), (q50, false), (q49, false), (q48, false), (q46, false), (q47, true), (q45, false), (q37, false), (q38, true), (q6, false)]
theorem start313_yes : lawStart2 lawPc313 = true := by kernel_rfl
def lawPc325 : Pc := [(q8, false), (q9, true), (q2, false), (q47, false), (q45, false), (q37, false), (q38, true), (q6, false)]
theorem start325_yes : lawStart5 lawPc325 = true := by kernel_rfl
def lawPc337 : Pc := [(q0, false), (q1, true), (q2, true), (q58, true), (q55, false), (q56, true), (q57, true), (q38, false), (q6, false)]
theorem start337_yes : lawStart1 lawPc337 = true := by kernel_rfl
def lawPc349 : Pc := [(q8, false), (q9, true), (q2, false), (q58, false), (q55, false), (q56, true), (q57, true), (q38, false), (q6, false)]
theorem start349_yes : lawStart5 lawPc349 = true := by kernel_rfl
def lawPc361 : Pc := [(q0, false), (q1, true), (q2, true), (q60, true), (q59, false), (q56, false), (q57, true), (q38, false), (q6, false)]
theorem start361_yes : lawStart1 lawPc361 = true := by kernel_rfl
def lawPc373 : Pc := [(q8, false), (q9, true), (q2, false), (q61, true), (q60, false), (q59, false), (q56, false), (q57, true), (q38, false), (q6, false)]
theorem start373_yes : lawStart5 lawPc373 = true := by kernel_rfl
def lawPc385 : Pc := [(q0, true), (q1, true), (q2, true), (q63, true), (q57, false), (q38, false), (q6, false)]
theorem start385_yes : lawStart0 lawPc385 = true := by kernel_rfl
def lawPc397 : Pc := [(q8, true), (q9, true), (q2, false), (q64, true), (q65, true), (q63, false), (q57, false), (q38, false), (q6, false)]
theorem start397_yes : lawStart4 lawPc397 = true := by kernel_rfl
def lawPc409 : Pc := [(q0, true), (q1, true), (q2, true), (q67, true), (q66, false), (q64, false), (q65, true), (q63, false), (q57, false), (q38, false), (q6, false)]
theorem start409_yes : lawStart0 lawPc409 = true := by kernel_rfl
def lawPc421 : Pc := [(q8, true), (q9, true), (q2, false), (q68, true), (q67, false), (q66, false), (q64, false), (q65, true), (q63, false), (q57, false), (q38, false), (q6, false)]
theorem start421_yes : lawStart4 lawPc421 = true := by kernel_rfl
def lawPc433 : Pc := [(q10, false), (q9, false), (q2, false), (q65, false), (q63, false), (q57, false), (q38, false), (q6, false)]
theorem start433_yes : lawStart7 lawPc433 = true := by kernel_rfl
end
end Go.Proofs.YtffhbmkpcenkoaaDoor.Sx
