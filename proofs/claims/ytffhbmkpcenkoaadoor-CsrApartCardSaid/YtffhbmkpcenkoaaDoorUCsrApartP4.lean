/- CsrApart: a part of its cases. -/
import Derived.Test.YtffhbmkpcenkoaaDoorUCsrApart
set_option linter.unusedVariables false
set_option linter.unusedSimpArgs false
namespace Go.Proofs.YtffhbmkpcenkoaaDoor.Sx
open Go
noncomputable section
set_option maxRecDepth 100000
def lawPc4 : Pc := [(q8, true), (q9, true), (q2, false), (q3, true), (q4, true), (q5, true), (q6, true)]
theorem start4_yes : lawStart4 lawPc4 = true := by kernel_rfl
def lawPc16 : Pc := [((.eq (.var 31 0 65535) (.lit 256)), false), ((.lt (.var 31 0 65535) (.lit 256)), false), ((.lt (.var 31 0 65535) (.lit 257)), true), ((.lt (.var 31 0 65535) (.lit 320)), true), ((.lt (.var 31 0 65535) (.lit 832)), true)]
theorem x16_no (i : Nat → Int) (hh : Holds i lawPc16) : False := by
  have h0 := hh _ _ (.head _)
  have h1 := hh _ _ (.tail _ (.head _))
  have h2 := hh _ _ (.tail _ (.tail _ (.head _)))
  have h3 := hh _ _ (.tail _ (.tail _ (.tail _ (.head _))))
  have h4 := hh _ _ (.tail _ (.tail _ (.tail _ (.tail _ (.head _)))))
  clear hh
  simp only [N.den, true_iff, Bool.false_eq_true, false_iff, bI_ne, ieq_iff, ilt_iff, Classical.not_not, ne_eq] at h0 h1 h2 h3 h4
  omega
def lawPc28 : Pc := [(q7, false), (q1, false), (q2, true), (q13, true), (q14, true), (q12, false), (q4, false), (q5, true), (q6, true)]
theorem start28_yes : lawStart3 lawPc28 = true := by kernel_rfl
def lawPc40 : Pc := [(q10, false), (q9, false), (q2, false), (q15, true), (q13, false), (q14, true), (q12, false), (q4, false), (q5, true), (q6, true)]
theorem start40_yes : lawStart7 lawPc40 = true := by kernel_rfl
def lawPc52 : Pc := [(q7, true), (q1, false), (q2, true), (q14, false), (q12, false), (q4, false), (q5, true), (q6, true)]
theorem start52_yes : lawStart2 lawPc52 = true := by kernel_rfl
def lawPc64 : Pc := [(q10, true), (q9, false), (q2, false), (q17, true), (q18, true), (q19, true), (q5, false), (q6, true)]
theorem start64_yes : lawStart6 lawPc64 = true := by kernel_rfl
def lawPc76 : Pc := [(q7, true), (q1, false), (q2, true), (q21, true), (q20, false), (q17, false), (q18, true), (q19, true), (q5, false), (q6, true)]
theorem start76_yes : lawStart2 lawPc76 = true := by kernel_rfl
def lawPc88 : Pc := [(q10, true), (q9, false), (q2, false), (q22, true), (q21, false), (q20, false), (q17, false), (q18, true), (q19, true), (q5, false), (q6, true)]
theorem start88_yes : lawStart6 lawPc88 = true := by kernel_rfl
def lawPc100 : Pc := [(q0, false), (q1, true), (q2, true), (q24, true), (q18, false), (q19, true), (q5, false), (q6, true)]
theorem start100_yes : lawStart1 lawPc100 = true := by kernel_rfl
def lawPc112 : Pc := [(q8, false), (q9, true), (q2, false), (q25, true), (q24, false), (q18, false), (q19, true), (q5, false), (q6, true)]
theorem start112_yes : lawStart5 lawPc112 = true := by kernel_rfl
def lawPc124 : Pc := [(q0, true), (q1, true), (q2, true), (q27, true), (q28, true), (q26, false), (q19, false), (q5, false), (q6, true)]
theorem start124_yes : lawStart0 lawPc124 = true := by kernel_rfl
def lawPc136 : Pc := [(q8, true), (q9, true), (q2, false), (q29, true), (q27, false), (q28, true), (q26, false), (q19, false), (q5, false), (q6, true)]
theorem start136_yes : lawStart4 lawPc136 = true := by kernel_rfl
def lawPc148 : Pc := [(q0, true), (q1, true), (q2, true), (q31, true), (q30, false), (q29, false), (q27, false), (q28, true), (q26, false), (q19, false), (q5, false), (q6, true)]
theorem start148_yes : lawStart0 lawPc148 = true := by kernel_rfl
def lawPc160 : Pc := [(q8, true), (q9, true), (q2, false), (q32, true), (q31, false), (q30, false), (q29, false), (q27, false), (q28, true), (q26, false), (q19, false), (q5, false), (q6, true)]
theorem start160_yes : lawStart4 lawPc160 = true := by kernel_rfl
def lawPc172 : Pc := [(q0, true), (q1, true), (q2, true), (q34, true), (q33, false), (q32, false), (q31, false), (q30, false), (q29, false), (q27, false), (q28, true), (q26, false), (q19, false), (q5, false), (q6, true)]
theorem start172_yes : lawStart0 lawPc172 = true := by kernel_rfl
def lawPc184 : Pc := [(q7, false), (q1, false), (q2, true), (q28, false), (q26, false), (q19, false), (q5, false), (q6, true)]
theorem start184_yes : lawStart3 lawPc184 = true := by kernel_rfl
def lawPc196 : Pc := [(q10, false), (q9, false), (q2, false), (q35, true), (q36, true), (q37, true), (q38, true), (q6, false)]
theorem start196_yes : lawStart7 lawPc196 = true := by kernel_rfl
def lawPc208 : Pc := [(q7, false), (q1, false), (q2, true), (q40, true), (q39, false), (q35, false), (q36, true), (q37, true), (q38, true), (q6, false)]
theorem start208_yes : lawStart3 lawPc208 = true := by kernel_rfl
def lawPc220 : Pc := [(q10, false), (q9, false), (q2, false), (q41, true), (q40, false), (q39, false), (q35, false), (q36, true), (q37, true), (q38, true), (q6, false)]
theorem start220_yes : lawStart7 lawPc220 = true := by kernel_rfl
def lawPc232 : Pc := [(q7, true), (q1, false), (q2, true), (q43, true), (q36, false), (q37, true), (q38, true), (q6, false)]
theorem start232_yes : lawStart2 lawPc232 = true := by kernel_rfl
def lawPc244 : Pc := [(q10, true), (q9, false), (q2, false), (q44, true), (q43, false), (q36, false), (q37, true), (q38, true), (q6, false)]
theorem start244_yes : lawStart6 lawPc244 = true := by kernel_rfl
def lawPc256 : Pc := [(q0, false), (q1, true), (q2, true), (q46, true), (q47, true), (q45, false), (q37, false), (q38, true), (q6, false)]
theorem start256_yes : lawStart1 lawPc256 = true := by kernel_rfl
def lawPc268 : Pc := [(q8, false), (q9, true), (q2, false), (q48, true), (q46, false), (q47, true), (q45, false), (q37, false), (q38, true), (q6, false)]
theorem start268_yes : lawStart5 lawPc268 = true := by kernel_rfl
def lawPc280 : Pc := [(q0, false), (q1, true), (q2, true), (q50, true), (q49, false), (q48, false), (q46, false), (q47, true), (q45, false), (q37, false), (q38, true), (q6, false)]
theorem start280_yes : lawStart1 lawPc280 = true := by kernel_rfl
def lawPc292 : Pc := [(q8, false), (q9, true), (q2, false), (q51, true), (q50, false), (q49, false), (q48, false), (q46, false), (q47, true), (q45, false), (q37, false), (q38, true), (q6, false)]
theorem start292_yes : lawStart5 lawPc292 = true := by kernel_rfl
def lawPc304 : Pc := [(q0, false), (q1, true), (q2, true), (q53, true), (q52, false), (q51, false), (q50, false), (q49, false), (q48, false), (q46, false), (q47, true), (q45, false), (q37, false), (q38, true), (q6, false)]
theorem start304_yes : lawStart1 lawPc304 = true := by kernel_rfl
def lawPc316 : Pc := [(q8, false), (q9, true), (q2, false), (q54, true), (q53, false), (q52, false), (q51, false), (q50, false), (q49, false), (q48, false), (q46, false), (q47, true), (q45, false), (q37, false), (q38, true), (q6, false)]
theorem start316_yes : lawStart5 lawPc316 = true := by kernel_rfl
def lawPc328 : Pc := [(q0, true), (q1, true), (q2, true), (q55, true), (q56, true), (q57, true), (q38, false), (q6, false)]
theorem start328_yes : lawStart0 lawPc328 = true := by kernel_rfl
def lawPc340 : Pc := [(q8, true), (q9, true), (q2, false), (q58, true), (q55, false), (q56, true), (q57, true), (q38, false), (q6, false)]
theorem start340_yes : lawStart4 lawPc340 = true := by kernel_rfl
def lawPc352 : Pc := [(q0, true), (q1, true), (q2, true), (q59, true), (q56, false), (q57, true), (q38, false), (q6, false)]
theorem start352_yes : lawStart0 lawPc352 = true := by kernel_rfl
def lawPc364 : Pc := [(q8, true), (q9, true), (q2, false), (q60, true), (q59, false), (q56, false), (q57, true), (q38, false), (q6, false)]
theorem start364_yes : lawStart4 lawPc364 = true := by kernel_rfl
def lawPc376 : Pc := [(q0, true), (q1, true), (q2, true), (q62, true), (q61, false), (q60, false), (q59, false), (q56, false), (q57, true), (q38, false), (q6, false)]
theorem start376_yes : lawStart0 lawPc376 = true := by kernel_rfl
def lawPc388 : Pc := [(q7, false), (q1, false), (q2, true), (q63, true), (q57, false), (q38, false), (q6, false)]
theorem start388_yes : lawStart3 lawPc388 = true := by kernel_rfl
def lawPc400 : Pc := [(q10, false), (q9, false), (q2, false), (q64, true), (q65, true), (q63, false), (q57, false), (q38, false), (q6, false)]
theorem start400_yes : lawStart7 lawPc400 = true := by kernel_rfl
def lawPc412 : Pc := [(q7, false), (q1, false), (q2, true), (q67, true), (q66, false), (q64, false), (q65, true), (q63, false), (q57, false), (q38, false), (q6, false)]
theorem start412_yes : lawStart3 lawPc412 = true := by kernel_rfl
def lawPc424 : Pc := [(q10, false), (q9, false), (q2, false), (q68, true), (q67, false), (q66, false), (q64, false), (q65, true), (q63, false), (q57, false), (q38, false), (q6, false)]
theorem start424_yes : lawStart7 lawPc424 = true := by kernel_rfl
end
end Go.Proofs.YtffhbmkpcenkoaaDoor.Sx
