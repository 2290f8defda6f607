/- PmpSizes: a part of its cases. -/
import Derived.Test.YtamndkfgcgoacaaDoorUPmpSizes
set_option linter.unusedVariables false
set_option linter.unusedSimpArgs false
namespace Go.Proofs.YtamndkfgcgoacaaDoor.Sx
open Go
noncomputable section
set_option maxRecDepth 100000
def lawPc5 : Pc := [(q6, false), (q5, true), (q4, true), (q3, true), (q2, true), (q0, true), (q1, true)]
theorem start5_yes : lawStart lawPc5 = true := by kernel_rfl
def lawPc16 : Pc := [(q17, false), (q16, true), (q14, true), (q15, true), (q1, false)]
theorem start16_yes : lawStart lawPc16 = true := by kernel_rfl
def lawPc27 : Pc := [(q27, true), (q26, true), (q25, true), (q24, true), (q23, true), (q22, true), (q21, true), (q20, true), (q19, true), (q18, true), (q17, true), (q16, true), (q14, true), (q15, true), (q1, false)]
theorem start27_yes : lawStart lawPc27 = true := by kernel_rfl
def lawPc38 : Pc := [(q39, false), (q38, true), (q37, true), (q36, true), (q35, true), (q34, true), (q33, true), (q32, true), (q31, true), (q30, true), (q28, true), (q29, true), (q15, false), (q1, false)]
theorem start38_yes : lawStart lawPc38 = true := by kernel_rfl
def lawPc49 : Pc := [(q50, false), (q49, true), (q48, true), (q47, true), (q46, true), (q45, true), (q44, true), (q42, true), (q43, true), (q29, false), (q15, false), (q1, false)]
theorem start49_yes : lawStart lawPc49 = true := by kernel_rfl
def lawPc60 : Pc := [(q61, false), (q60, true), (q59, true), (q58, true), (q56, true), (q57, true), (q43, false), (q29, false), (q15, false), (q1, false)]
theorem start60_yes : lawStart lawPc60 = true := by kernel_rfl
def lawPc71 : Pc := [(q72, false), (q70, true), (q71, true), (q57, false), (q43, false), (q29, false), (q15, false), (q1, false)]
theorem start71_yes : lawStart lawPc71 = true := by kernel_rfl
def lawPc82 : Pc := [(q83, false), (q82, true), (q81, true), (q80, true), (q79, true), (q78, true), (q77, true), (q76, true), (q75, true), (q74, true), (q73, true), (q72, true), (q70, true), (q71, true), (q57, false), (q43, false), (q29, false), (q15, false), (q1, false)]
theorem start82_yes : lawStart lawPc82 = true := by kernel_rfl
def lawPc93 : Pc := [(q94, false), (q93, true), (q92, true), (q91, true), (q90, true), (q89, true), (q88, true), (q87, true), (q86, true), (q84, true), (q85, true), (q71, false), (q57, false), (q43, false), (q29, false), (q15, false), (q1, false)]
theorem start93_yes : lawStart lawPc93 = true := by kernel_rfl
def lawPc104 : Pc := [(q105, false), (q104, true), (q103, true), (q102, true), (q101, true), (q100, true), (q98, true), (q99, true), (q85, false), (q71, false), (q57, false), (q43, false), (q29, false), (q15, false), (q1, false)]
theorem start104_yes : lawStart lawPc104 = true := by kernel_rfl
end
end Go.Proofs.YtamndkfgcgoacaaDoor.Sx
