/- PmpSizes: a part of its cases. -/
import Derived.Test.YtamndkfgcgoacaaDoorUPmpSizes
set_option linter.unusedVariables false
set_option linter.unusedSimpArgs false
namespace Go.Proofs.YtamndkfgcgoacaaDoor.Sx
open Go
noncomputable section
set_option maxRecDepth 100000
def lawPc7 : Pc := [(q8, false), (q7, true), (q6, true), (q5, true), (q4, true), (q3, true), (q2, true), (q0, true), (q1, true)]
theorem start7_yes : lawStart lawPc7 = true := by kernel_rfl
def lawPc18 : Pc := [(q19, false), (q18, true), (q17, true), (q16, true), (q14, true), (q15, true), (q1, false)]
theorem start18_yes : lawStart lawPc18 = true := by kernel_rfl
def lawPc29 : Pc := [(q30, false), (q28, true), (q29, true), (q15, false), (q1, false)]
theorem start29_yes : lawStart lawPc29 = true := by kernel_rfl
def lawPc40 : Pc := [(q41, false), (q40, true), (q39, true), (q38, true), (q37, true), (q36, true), (q35, true), (q34, true), (q33, true), (q32, true), (q31, true), (q30, true), (q28, true), (q29, true), (q15, false), (q1, false)]
theorem start40_yes : lawStart lawPc40 = true := by kernel_rfl
def lawPc51 : Pc := [(q52, false), (q51, true), (q50, true), (q49, true), (q48, true), (q47, true), (q46, true), (q45, true), (q44, true), (q42, true), (q43, true), (q29, false), (q15, false), (q1, false)]
theorem start51_yes : lawStart lawPc51 = true := by kernel_rfl
def lawPc62 : Pc := [(q63, false), (q62, true), (q61, true), (q60, true), (q59, true), (q58, true), (q56, true), (q57, true), (q43, false), (q29, false), (q15, false), (q1, false)]
theorem start62_yes : lawStart lawPc62 = true := by kernel_rfl
def lawPc73 : Pc := [(q74, false), (q73, true), (q72, true), (q70, true), (q71, true), (q57, false), (q43, false), (q29, false), (q15, false), (q1, false)]
theorem start73_yes : lawStart lawPc73 = true := by kernel_rfl
def lawPc84 : Pc := [(q84, false), (q85, true), (q71, false), (q57, false), (q43, false), (q29, false), (q15, false), (q1, false)]
theorem start84_yes : lawStart lawPc84 = true := by kernel_rfl
def lawPc95 : Pc := [(q96, false), (q95, true), (q94, true), (q93, true), (q92, true), (q91, true), (q90, true), (q89, true), (q88, true), (q87, true), (q86, true), (q84, true), (q85, true), (q71, false), (q57, false), (q43, false), (q29, false), (q15, false), (q1, false)]
theorem start95_yes : lawStart lawPc95 = true := by kernel_rfl
def lawPc106 : Pc := [(q107, false), (q106, true), (q105, true), (q104, true), (q103, true), (q102, true), (q101, true), (q100, true), (q98, true), (q99, true), (q85, false), (q71, false), (q57, false), (q43, false), (q29, false), (q15, false), (q1, false)]
theorem start106_yes : lawStart lawPc106 = true := by kernel_rfl
end
end Go.Proofs.YtamndkfgcgoacaaDoor.Sx
