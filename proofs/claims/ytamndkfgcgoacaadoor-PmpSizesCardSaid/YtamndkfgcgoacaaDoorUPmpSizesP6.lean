/- PmpSizes: a part of its cases. -/
import Derived.Test.YtamndkfgcgoacaaDoorUPmpSizes
set_option linter.unusedVariables false
set_option linter.unusedSimpArgs false
namespace Go.Proofs.YtamndkfgcgoacaaDoor.Sx
open Go
noncomputable section
set_option maxRecDepth 100000
def lawPc6 : Pc := [(q7, false), (q6, true), (q5, true), (q4, true), (q3, true), (q2, true), (q0, true), (q1, true)]
theorem start6_yes : lawStart lawPc6 = true := by kernel_rfl
def lawPc17 : Pc := [(q18, false), (q17, true), (q16, true), (q14, true), (q15, true), (q1, false)]
theorem start17_yes : lawStart lawPc17 = true := by kernel_rfl
def lawPc28 : Pc := [(q28, false), (q29, true), (q15, false), (q1, false)]
theorem start28_yes : lawStart lawPc28 = true := by kernel_rfl
def lawPc39 : Pc := [(q40, false), (q39, true), (q38, true), (q37, true), (q36, true), (q35, true), (q34, true), (q33, true), (q32, true), (q31, true), (q30, true), (q28, true), (q29, true), (q15, false), (q1, false)]
theorem start39_yes : lawStart lawPc39 = true := by kernel_rfl
def lawPc50 : Pc := [(q51, false), (q50, true), (q49, true), (q48, true), (q47, true), (q46, true), (q45, true), (q44, true), (q42, true), (q43, true), (q29, false), (q15, false), (q1, false)]
theorem start50_yes : lawStart lawPc50 = true := by kernel_rfl
def lawPc61 : Pc := [(q62, false), (q61, true), (q60, true), (q59, true), (q58, true), (q56, true), (q57, true), (q43, false), (q29, false), (q15, false), (q1, false)]
theorem start61_yes : lawStart lawPc61 = true := by kernel_rfl
def lawPc72 : Pc := [(q73, false), (q72, true), (q70, true), (q71, true), (q57, false), (q43, false), (q29, false), (q15, false), (q1, false)]
theorem start72_yes : lawStart lawPc72 = true := by kernel_rfl
def lawPc83 : Pc := [(q83, true), (q82, true), (q81, true), (q80, true), (q79, true), (q78, true), (q77, true), (q76, true), (q75, true), (q74, true), (q73, true), (q72, true), (q70, true), (q71, true), (q57, false), (q43, false), (q29, false), (q15, false), (q1, false)]
theorem start83_yes : lawStart lawPc83 = true := by kernel_rfl
def lawPc94 : Pc := [(q95, false), (q94, true), (q93, true), (q92, true), (q91, true), (q90, true), (q89, true), (q88, true), (q87, true), (q86, true), (q84, true), (q85, true), (q71, false), (q57, false), (q43, false), (q29, false), (q15, false), (q1, false)]
theorem start94_yes : lawStart lawPc94 = true := by kernel_rfl
def lawPc105 : Pc := [(q106, false), (q105, true), (q104, true), (q103, true), (q102, true), (q101, true), (q100, true), (q98, true), (q99, true), (q85, false), (q71, false), (q57, false), (q43, false), (q29, false), (q15, false), (q1, false)]
theorem start105_yes : lawStart lawPc105 = true := by kernel_rfl
end
end Go.Proofs.YtamndkfgcgoacaaDoor.Sx
