/- PmpSizes: a part of its cases. -/
import Derived.Test.YtamndkfgcgoacaaDoorUPmpSizes
set_option linter.unusedVariables false
set_option linter.unusedSimpArgs false
namespace Go.Proofs.YtamndkfgcgoacaaDoor.Sx
open Go
noncomputable section
set_option maxRecDepth 100000
def lawPc1 : Pc := [(q2, false), (q0, true), (q1, true)]
theorem start1_yes : lawStart lawPc1 = true := by kernel_rfl
def lawPc12 : Pc := [(q13, false), (q12, true), (q11, true), (q10, true), (q9, true), (q8, true), (q7, true), (q6, true), (q5, true), (q4, true), (q3, true), (q2, true), (q0, true), (q1, true)]
theorem start12_yes : lawStart lawPc12 = true := by kernel_rfl
def lawPc23 : Pc := [(q24, false), (q23, true), (q22, true), (q21, true), (q20, true), (q19, true), (q18, true), (q17, true), (q16, true), (q14, true), (q15, true), (q1, false)]
theorem start23_yes : lawStart lawPc23 = true := by kernel_rfl
def lawPc34 : Pc := [(q35, false), (q34, true), (q33, true), (q32, true), (q31, true), (q30, true), (q28, true), (q29, true), (q15, false), (q1, false)]
theorem start34_yes : lawStart lawPc34 = true := by kernel_rfl
def lawPc45 : Pc := [(q46, false), (q45, true), (q44, true), (q42, true), (q43, true), (q29, false), (q15, false), (q1, false)]
theorem start45_yes : lawStart lawPc45 = true := by kernel_rfl
def lawPc56 : Pc := [(q56, false), (q57, true), (q43, false), (q29, false), (q15, false), (q1, false)]
theorem start56_yes : lawStart lawPc56 = true := by kernel_rfl
def lawPc67 : Pc := [(q68, false), (q67, true), (q66, true), (q65, true), (q64, true), (q63, true), (q62, true), (q61, true), (q60, true), (q59, true), (q58, true), (q56, true), (q57, true), (q43, false), (q29, false), (q15, false), (q1, false)]
theorem start67_yes : lawStart lawPc67 = true := by kernel_rfl
def lawPc78 : Pc := [(q79, false), (q78, true), (q77, true), (q76, true), (q75, true), (q74, true), (q73, true), (q72, true), (q70, true), (q71, true), (q57, false), (q43, false), (q29, false), (q15, false), (q1, false)]
theorem start78_yes : lawStart lawPc78 = true := by kernel_rfl
def lawPc89 : Pc := [(q90, false), (q89, true), (q88, true), (q87, true), (q86, true), (q84, true), (q85, true), (q71, false), (q57, false), (q43, false), (q29, false), (q15, false), (q1, false)]
theorem start89_yes : lawStart lawPc89 = true := by kernel_rfl
def lawPc100 : Pc := [(q101, false), (q100, true), (q98, true), (q99, true), (q85, false), (q71, false), (q57, false), (q43, false), (q29, false), (q15, false), (q1, false)]
theorem start100_yes : lawStart lawPc100 = true := by kernel_rfl
def lawPc111 : Pc := [(q111, true), (q110, true), (q109, true), (q108, true), (q107, true), (q106, true), (q105, true), (q104, true), (q103, true), (q102, true), (q101, true), (q100, true), (q98, true), (q99, true), (q85, false), (q71, false), (q57, false), (q43, false), (q29, false), (q15, false), (q1, false)]
theorem start111_yes : lawStart lawPc111 = true := by kernel_rfl
end
end Go.Proofs.YtamndkfgcgoacaaDoor.Sx
