/- PmpSizes: a part of its cases. -/
import Derived.Test.YtamndkfgcgoacaaDoorUPmpSizes
set_option linter.unusedVariables false
set_option linter.unusedSimpArgs false
namespace Go.Proofs.YtamndkfgcgoacaaDoor.Sx
open Go
noncomputable section
set_option maxRecDepth 100000
def lawPc4 : Pc := [(q5, false), (q4, true), (q3, true), (q2, true), (q0, true), (q1, true)]
theorem start4_yes : lawStart lawPc4 = true := by kernel_rfl
def lawPc15 : Pc := [(q16, false), (q14, true), (q15, true), (q1, false)]
theorem start15_yes : lawStart lawPc15 = true := by kernel_rfl
def lawPc26 : Pc := [(q27, false), (q26, true), (q25, true), (q24, true), (q23, true), (q22, true), (q21, true), (q20, true), (q19, true), (q18, true), (q17, true), (q16, true), (q14, true), (q15, true), (q1, false)]
theorem start26_yes : lawStart lawPc26 = true := by kernel_rfl
def lawPc37 : Pc := [(q38, false), (q37, true), (q36, true), (q35, true), (q34, true), (q33, true), (q32, true), (q31, true), (q30, true), (q28, true), (q29, true), (q15, false), (q1, false)]
theorem start37_yes : lawStart lawPc37 = true := by kernel_rfl
def lawPc48 : Pc := [(q49, false), (q48, true), (q47, true), (q46, true), (q45, true), (q44, true), (q42, true), (q43, true), (q29, false), (q15, false), (q1, false)]
theorem start48_yes : lawStart lawPc48 = true := by kernel_rfl
def lawPc59 : Pc := [(q60, false), (q59, true), (q58, true), (q56, true), (q57, true), (q43, false), (q29, false), (q15, false), (q1, false)]
theorem start59_yes : lawStart lawPc59 = true := by kernel_rfl
def lawPc70 : Pc := [(q70, false), (q71, true), (q57, false), (q43, false), (q29, false), (q15, false), (q1, false)]
theorem start70_yes : lawStart lawPc70 = true := by kernel_rfl
def lawPc81 : Pc := [(q82, false), (q81, true), (q80, true), (q79, true), (q78, true), (q77, true), (q76, true), (q75, true), (q74, true), (q73, true), (q72, true), (q70, true), (q71, true), (q57, false), (q43, false), (q29, false), (q15, false), (q1, false)]
theorem start81_yes : lawStart lawPc81 = true := by kernel_rfl
def lawPc92 : Pc := [(q93, false), (q92, true), (q91, true), (q90, true), (q89, true), (q88, true), (q87, true), (q86, true), (q84, true), (q85, true), (q71, false), (q57, false), (q43, false), (q29, false), (q15, false), (q1, false)]
theorem start92_yes : lawStart lawPc92 = true := by kernel_rfl
def lawPc103 : Pc := [(q104, false), (q103, true), (q102, true), (q101, true), (q100, true), (q98, true), (q99, true), (q85, false), (q71, false), (q57, false), (q43, false), (q29, false), (q15, false), (q1, false)]
theorem start103_yes : lawStart lawPc103 = true := by kernel_rfl
end
end Go.Proofs.YtamndkfgcgoacaaDoor.Sx
