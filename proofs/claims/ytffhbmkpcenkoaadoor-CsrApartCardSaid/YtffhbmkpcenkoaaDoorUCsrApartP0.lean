/- CsrApart: a part of its cases. -/
import Derived.Test.YtffhbmkpcenkoaaDoorUCsrApart
set_option linter.unusedVariables false
set_option linter.unusedSimpArgs false
namespace Go.Proofs.YtffhbmkpcenkoaaDoor.Sx
open Go
noncomputable section
set_option maxRecDepth 100000
def lawPc0 : Pc := [(q0, true), (q1, true), (q2, true), (q3, true), (q4, true), (q5, true), (q6, true)]
theorem start0_yes : lawStart0 lawPc0 = true := by kernel_rfl
def lawPc12 : Pc := [(q8, true), (q9, true), (q2, false), (q11, true), (q3, false), (q4, true), (q5, true), (q6, true)]
theorem start12_yes : lawStart4 lawPc12 = true := by kernel_rfl
def lawPc24 : Pc := [(q10, false), (q9, false), (q2, false), (q12, true), (q4, false), (q5, true), (q6, true)]
theorem start24_yes : lawStart7 lawPc24 = true := by kernel_rfl
def lawPc36 : Pc := [(q7, false), (q1, false), (q2, true), (q15, true), (q13, false), (q14, true), (q12, false), (q4, false), (q5, true), (q6, true)]
theorem start36_yes : lawStart3 lawPc36 = true := by kernel_rfl
def lawPc48 : Pc := [(q10, false), (q9, false), (q2, false), (q16, true), (q15, false), (q13, false), (q14, true), (q12, false), (q4, false), (q5, true), (q6, true)]
theorem start48_yes : lawStart7 lawPc48 = true := by kernel_rfl
def lawPc60 : Pc := [(q7, true), (q1, false), (q2, true), (q17, true), (q18, true), (q19, true), (q5, false), (q6, true)]
theorem start60_yes : lawStart2 lawPc60 = true := by kernel_rfl
def lawPc72 : Pc := [(q10, true), (q9, false), (q2, false), (q20, true), (q17, false), (q18, true), (q19, true), (q5, false), (q6, true)]
theorem start72_yes : lawStart6 lawPc72 = true := by kernel_rfl
def lawPc84 : Pc := [(q7, true), (q1, false), (q2, true), (q22, true), (q21, false), (q20, false), (q17, false), (q18, true), (q19, true), (q5, false), (q6, true)]
theorem start84_yes : lawStart2 lawPc84 = true := by kernel_rfl
def lawPc96 : Pc := [(q10, true), (q9, false), (q2, false), (q23, true), (q22, false), (q21, false), (q20, false), (q17, false), (q18, true), (q19, true), (q5, false), (q6, true)]
theorem start96_yes : lawStart6 lawPc96 = true := by kernel_rfl
def lawPc108 : Pc := [(q0, false), (q1, true), (q2, true), (q25, true), (q24, false), (q18, false), (q19, true), (q5, false), (q6, true)]
theorem start108_yes : lawStart1 lawPc108 = true := by kernel_rfl
def lawPc120 : Pc := [(q8, true), (q9, true), (q2, false), (q26, true), (q19, false), (q5, false), (q6, true)]
theorem start120_yes : lawStart4 lawPc120 = true := by kernel_rfl
def lawPc132 : Pc := [(q0, true), (q1, true), (q2, true), (q29, true), (q27, false), (q28, true), (q26, false), (q19, false), (q5, false), (q6, true)]
theorem start132_yes : lawStart0 lawPc132 = true := by kernel_rfl
def lawPc144 : Pc := [(q8, true), (q9, true), (q2, false), (q30, true), (q29, false), (q27, false), (q28, true), (q26, false), (q19, false), (q5, false), (q6, true)]
theorem start144_yes : lawStart4 lawPc144 = true := by kernel_rfl
def lawPc156 : Pc := [(q0, true), (q1, true), (q2, true), (q32, true), (q31, false), (q30, false), (q29, false), (q27, false), (q28, true), (q26, false), (q19, false), (q5, false), (q6, true)]
theorem start156_yes : lawStart0 lawPc156 = true := by kernel_rfl
def lawPc168 : Pc := [(q8, true), (q9, true), (q2, false), (q33, true), (q32, false), (q31, false), (q30, false), (q29, false), (q27, false), (q28, true), (q26, false), (q19, false), (q5, false), (q6, true)]
theorem start168_yes : lawStart4 lawPc168 = true := by kernel_rfl
def lawPc180 : Pc := [((.eq (.var 31 0 65535) (.lit 774)), false), ((.eq (.var 31 0 65535) (.lit 773)), false), ((.eq (.var 31 0 65535) (.lit 772)), false), ((.eq (.var 31 0 65535) (.lit 771)), false), ((.eq (.var 31 0 65535) (.lit 770)), false), ((.eq (.var 31 0 65535) (.lit 769)), false), ((.eq (.var 31 0 65535) (.lit 768)), false), ((.lt (.var 31 0 65535) (.lit 775)), true), ((.lt (.var 31 0 65535) (.lit 768)), false), ((.lt (.var 31 0 65535) (.lit 385)), false), ((.lt (.var 31 0 65535) (.lit 320)), false), ((.lt (.var 31 0 65535) (.lit 832)), true)]
theorem x180_no (i : Nat → Int) (hh : Holds i lawPc180) : False := by
  have h0 := hh _ _ (.head _)
  have h1 := hh _ _ (.tail _ (.head _))
  have h2 := hh _ _ (.tail _ (.tail _ (.head _)))
  have h3 := hh _ _ (.tail _ (.tail _ (.tail _ (.head _))))
  have h4 := hh _ _ (.tail _ (.tail _ (.tail _ (.tail _ (.head _)))))
  have h5 := hh _ _ (.tail _ (.tail _ (.tail _ (.tail _ (.tail _ (.head _))))))
  have h6 := hh _ _ (.tail _ (.tail _ (.tail _ (.tail _ (.tail _ (.tail _ (.head _)))))))
  have h7 := hh _ _ (.tail _ (.tail _ (.tail _ (.tail _ (.tail _ (.tail _ (.tail _ (.head _))))))))
  have h8 := hh _ _ (.tail _ (.tail _ (.tail _ (.tail _ (.tail _ (.tail _ (.tail _ (.tail _ (.head _)))))))))
  have h9 := hh _ _ (.tail _ (.tail _ (.tail _ (.tail _ (.tail _ (.tail _ (.tail _ (.tail _ (.tail _ (.head _))))))))))
  have h10 := hh _ _ (.tail _ (.tail _ (.tail _ (.tail _ (.tail _ (.tail _ (.tail _ (.tail _ (.tail _ (.tail _ (.head _)))))))))))
  have h11 := hh _ _ (.tail _ (.tail _ (.tail _ (.tail _ (.tail _ (.tail _ (.tail _ (.tail _ (.tail _ (.tail _ (.tail _ (.head _))))))))))))
  clear hh
  simp only [N.den, true_iff, Bool.false_eq_true, false_iff, bI_ne, ieq_iff, ilt_iff, Classical.not_not, ne_eq] at h0 h1 h2 h3 h4 h5 h6 h7 h8 h9 h10 h11
  omega
def lawPc192 : Pc := [(q7, false), (q1, false), (q2, true), (q35, true), (q36, true), (q37, true), (q38, true), (q6, false)]
theorem start192_yes : lawStart3 lawPc192 = true := by kernel_rfl
def lawPc204 : Pc := [(q10, false), (q9, false), (q2, false), (q39, true), (q35, false), (q36, true), (q37, true), (q38, true), (q6, false)]
theorem start204_yes : lawStart7 lawPc204 = true := by kernel_rfl
def lawPc216 : Pc := [(q7, false), (q1, false), (q2, true), (q41, true), (q40, false), (q39, false), (q35, false), (q36, true), (q37, true), (q38, true), (q6, false)]
theorem start216_yes : lawStart3 lawPc216 = true := by kernel_rfl
def lawPc228 : Pc := [(q10, false), (q9, false), (q2, false), (q42, true), (q41, false), (q40, false), (q39, false), (q35, false), (q36, true), (q37, true), (q38, true), (q6, false)]
theorem start228_yes : lawStart7 lawPc228 = true := by kernel_rfl
def lawPc240 : Pc := [(q7, true), (q1, false), (q2, true), (q44, true), (q43, false), (q36, false), (q37, true), (q38, true), (q6, false)]
theorem start240_yes : lawStart2 lawPc240 = true := by kernel_rfl
def lawPc252 : Pc := [(q8, false), (q9, true), (q2, false), (q45, true), (q37, false), (q38, true), (q6, false)]
theorem start252_yes : lawStart5 lawPc252 = true := by kernel_rfl
def lawPc264 : Pc := [(q0, false), (q1, true), (q2, true), (q48, true), (q46, false), (q47, true), (q45, false), (q37, false), (q38, true), (q6, false)]
theorem start264_yes : lawStart1 lawPc264 = true := by kernel_rfl
def lawPc276 : Pc := [(q8, false), (q9, true), (q2, false), (q49, true), (q48, false), (q46, false), (q47, true), (q45, false), (q37, false), (q38, true), (q6, false)]
theorem start276_yes : lawStart5 lawPc276 = true := by kernel_rfl
def lawPc288 : Pc := [(q0, false), (q1, true), (q2, true), (q51, true), (q50, false), (q49, false), (q48, false), (q46, false), (q47, true), (q45, false), (q37, false), (q38, true), (q6, false)]
theorem start288_yes : lawStart1 lawPc288 = true := by kernel_rfl
def lawPc300 : Pc := [(q8, false), (q9, true), (q2, false), (q52, true), (q51, false), (q50, false), (q49, false), (q48, false), (q46, false), (q47, true), (q45, false), (q37, false), (q38, true), (q6, false)]
theorem start300_yes : lawStart5 lawPc300 = true := by kernel_rfl
def lawPc312 : Pc := [(q0, false), (q1, true), (q2, true), (q54, true), (q53, false), (q52, false), (q51, false), (q50, false), (q49, false), (q48, false), (q46, false), (q47, true), (q45, false), (q37, false), (q38, true), (q6, false)]
theorem start312_yes : lawStart1 lawPc312 = true := by kernel_rfl
def lawPc324 : Pc := [(q8, true), (q9, true), (q2, false), (q47, false), (q45, false), (q37, false), (q38, true), (q6, false)]
theorem start324_yes : lawStart4 lawPc324 = true := by kernel_rfl
def lawPc336 : Pc := [(q0, true), (q1, true), (q2, true), (q58, true), (q55, false), (q56, true), (q57, true), (q38, false), (q6, false)]
theorem start336_yes : lawStart0 lawPc336 = true := by kernel_rfl
def lawPc348 : Pc := [(q8, true), (q9, true), (q2, false), (q58, false), (q55, false), (q56, true), (q57, true), (q38, false), (q6, false)]
theorem start348_yes : lawStart4 lawPc348 = true := by kernel_rfl
def lawPc360 : Pc := [(q0, true), (q1, true), (q2, true), (q60, true), (q59, false), (q56, false), (q57, true), (q38, false), (q6, false)]
theorem start360_yes : lawStart0 lawPc360 = true := by kernel_rfl
def lawPc372 : Pc := [(q8, true), (q9, true), (q2, false), (q61, true), (q60, false), (q59, false), (q56, false), (q57, true), (q38, false), (q6, false)]
theorem start372_yes : lawStart4 lawPc372 = true := by kernel_rfl
def lawPc384 : Pc := [((.eq (.var 31 0 65535) (.lit 3074)), false), ((.eq (.var 31 0 65535) (.lit 3073)), false), ((.eq (.var 31 0 65535) (.lit 3072)), false), ((.lt (.var 31 0 65535) (.lit 3072)), false), ((.lt (.var 31 0 65535) (.lit 2819)), false), ((.lt (.var 31 0 65535) (.lit 3075)), true), ((.lt (.var 31 0 65535) (.lit 2816)), false), ((.lt (.var 31 0 65535) (.lit 832)), false)]
theorem x384_no (i : Nat → Int) (hh : Holds i lawPc384) : False := by
  have h0 := hh _ _ (.head _)
  have h1 := hh _ _ (.tail _ (.head _))
  have h2 := hh _ _ (.tail _ (.tail _ (.head _)))
  have h3 := hh _ _ (.tail _ (.tail _ (.tail _ (.head _))))
  have h4 := hh _ _ (.tail _ (.tail _ (.tail _ (.tail _ (.head _)))))
  have h5 := hh _ _ (.tail _ (.tail _ (.tail _ (.tail _ (.tail _ (.head _))))))
  have h6 := hh _ _ (.tail _ (.tail _ (.tail _ (.tail _ (.tail _ (.tail _ (.head _)))))))
  have h7 := hh _ _ (.tail _ (.tail _ (.tail _ (.tail _ (.tail _ (.tail _ (.tail _ (.head _))))))))
  clear hh
  simp only [N.den, true_iff, Bool.false_eq_true, false_iff, bI_ne, ieq_iff, ilt_iff, Classical.not_not, ne_eq] at h0 h1 h2 h3 h4 h5 h6 h7
  omega
def lawPc396 : Pc := [(q7, false), (q1, false), (q2, true), (q64, true), (q65, true), (q63, false), (q57, false), (q38, false), (q6, false)]
theorem start396_yes : lawStart3 lawPc396 = true := by kernel_rfl
def lawPc408 : Pc := [(q10, false), (q9, false), (q2, false), (q66, true), (q64, false), (q65, true), (q63, false), (q57, false), (q38, false), (q6, false)]
theorem start408_yes : lawStart7 lawPc408 = true := by kernel_rfl
def lawPc420 : Pc := [(q7, false), (q1, false), (q2, true), (q68, true), (q67, false), (q66, false), (q64, false), (q65, true), (q63, false), (q57, false), (q38, false), (q6, false)]
theorem start420_yes : lawStart3 lawPc420 = true := by kernel_rfl
def lawPc432 : Pc := [(q10, true), (q9, false), (q2, false), (q65, false), (q63, false), (q57, false), (q38, false), (q6, false)]
theorem start432_yes : lawStart6 lawPc432 = true := by kernel_rfl
end
end Go.Proofs.YtffhbmkpcenkoaaDoor.Sx
