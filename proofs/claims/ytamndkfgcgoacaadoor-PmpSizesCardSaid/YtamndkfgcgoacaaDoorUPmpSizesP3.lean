/- PmpSizes: a part of its cases. -/
import Derived.Test.YtamndkfgcgoacaaDoorUPmpSizes
set_option linter.unusedVariables false
set_option linter.unusedSimpArgs false
namespace Go.Proofs.YtamndkfgcgoacaaDoor.Sx
open Go
noncomputable section
set_option maxRecDepth 100000
def lawPc3 : Pc := [(q4, false), (q3, true), (q2, true), (q0, true), (q1, true)]
theorem start3_yes : lawStart lawPc3 = true := by kernel_rfl
def lawPc14 : Pc := [(q14, false), (q15, true), (q1, false)]
theorem start14_yes : lawStart lawPc14 = true := by kernel_rfl
def lawPc25 : Pc := [(q26, false), (q25, true), (q24, true), (q23, true), (q22, true), (q21, true), (q20, true), (q19, true), (q18, true), (q17, true), (q16, true), (q14, true), (q15, true), (q1, false)]
theorem start25_yes : lawStart lawPc25 = true := by kernel_rfl
def lawPc36 : Pc := [(q37, false), (q36, true), (q35, true), (q34, true), (q33, true), (q32, true), (q31, true), (q30, true), (q28, true), (q29, true), (q15, false), (q1, false)]
theorem start36_yes : lawStart lawPc36 = true := by kernel_rfl
def lawPc47 : Pc := [(q48, false), (q47, true), (q46, true), (q45, true), (q44, true), (q42, true), (q43, true), (q29, false), (q15, false), (q1, false)]
theorem start47_yes : lawStart lawPc47 = true := by kernel_rfl
def lawPc58 : Pc := [(q59, false), (q58, true), (q56, true), (q57, true), (q43, false), (q29, false), (q15, false), (q1, false)]
theorem start58_yes : lawStart lawPc58 = true := by kernel_rfl
def lawPc69 : Pc := [(q69, true), (q68, true), (q67, true), (q66, true), (q65, true), (q64, true), (q63, true), (q62, true), (q61, true), (q60, true), (q59, true), (q58, true), (q56, true), (q57, true), (q43, false), (q29, false), (q15, false), (q1, false)]
theorem start69_yes : lawStart lawPc69 = true := by kernel_rfl
def lawPc80 : Pc := [(q81, false), (q80, true), (q79, true), (q78, true), (q77, true), (q76, true), (q75, true), (q74, true), (q73, true), (q72, true), (q70, true), (q71, true), (q57, false), (q43, false), (q29, false), (q15, false), (q1, false)]
theorem start80_yes : lawStart lawPc80 = true := by kernel_rfl
def lawPc91 : Pc := [(q92, false), (q91, true), (q90, true), (q89, true), (q88, true), (q87, true), (q86, true), (q84, true), (q85, true), (q71, false), (q57, false), (q43, false), (q29, false), (q15, false), (q1, false)]
theorem start91_yes : lawStart lawPc91 = true := by kernel_rfl
def lawPc102 : Pc := [(q103, false), (q102, true), (q101, true), (q100, true), (q98, true), (q99, true), (q85, false), (q71, false), (q57, false), (q43, false), (q29, false), (q15, false), (q1, false)]
theorem start102_yes : lawStart lawPc102 = true := by kernel_rfl
end
end Go.Proofs.YtamndkfgcgoacaaDoor.Sx
