/- PmpSizes: a part of its cases. -/
import Derived.Test.YtamndkfgcgoacaaDoorUPmpSizes
set_option linter.unusedVariables false
set_option linter.unusedSimpArgs false
namespace Go.Proofs.YtamndkfgcgoacaaDoor.Sx
open Go
noncomputable section
set_option maxRecDepth 100000
def lawPc8 : Pc := [(q9, false), (q8, true), (q7, true), (q6, true), (q5, true), (q4, true), (q3, true), (q2, true), (q0, true), (q1, true)]
theorem start8_yes : lawStart lawPc8 = true := by kernel_rfl
def lawPc19 : Pc := [(q20, false), (q19, true), (q18, true), (q17, true), (q16, true), (q14, true), (q15, true), (q1, false)]
theorem start19_yes : lawStart lawPc19 = true := by kernel_rfl
def lawPc30 : Pc := [(q31, false), (q30, true), (q28, true), (q29, true), (q15, false), (q1, false)]
theorem start30_yes : lawStart lawPc30 = true := by kernel_rfl
def lawPc41 : Pc := [(q41, true), (q40, true), (q39, true), (q38, true), (q37, true), (q36, true), (q35, true), (q34, true), (q33, true), (q32, true), (q31, true), (q30, true), (q28, true), (q29, true), (q15, false), (q1, false)]
theorem start41_yes : lawStart lawPc41 = true := by kernel_rfl
def lawPc52 : Pc := [(q53, false), (q52, true), (q51, true), (q50, true), (q49, true), (q48, true), (q47, true), (q46, true), (q45, true), (q44, true), (q42, true), (q43, true), (q29, false), (q15, false), (q1, false)]
theorem start52_yes : lawStart lawPc52 = true := by kernel_rfl
def lawPc63 : Pc := [(q64, false), (q63, true), (q62, true), (q61, true), (q60, true), (q59, true), (q58, true), (q56, true), (q57, true), (q43, false), (q29, false), (q15, false), (q1, false)]
theorem start63_yes : lawStart lawPc63 = true := by kernel_rfl
def lawPc74 : Pc := [(q75, false), (q74, true), (q73, true), (q72, true), (q70, true), (q71, true), (q57, false), (q43, false), (q29, false), (q15, false), (q1, false)]
theorem start74_yes : lawStart lawPc74 = true := by kernel_rfl
def lawPc85 : Pc := [(q86, false), (q84, true), (q85, true), (q71, false), (q57, false), (q43, false), (q29, false), (q15, false), (q1, false)]
theorem start85_yes : lawStart lawPc85 = true := by kernel_rfl
def lawPc96 : Pc := [(q97, false), (q96, true), (q95, true), (q94, true), (q93, true), (q92, true), (q91, true), (q90, true), (q89, true), (q88, true), (q87, true), (q86, true), (q84, true), (q85, true), (q71, false), (q57, false), (q43, false), (q29, false), (q15, false), (q1, false)]
theorem start96_yes : lawStart lawPc96 = true := by kernel_rfl
def lawPc107 : Pc := [(q108, false), (q107, true), (q106, true), (q105, true), (q104, true), (q103, true), (q102, true), (q101, true), (q100, true), (q98, true), (q99, true), (q85, false), (q71, false), (q57, false), (q43, false), (q29, false), (q15, false), (q1, false)]
theorem start107_yes : lawStart lawPc107 = true := by kernel_rfl
end
end Go.Proofs.YtamndkfgcgoacaaDoor.Sx
