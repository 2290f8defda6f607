/- PmpSizes: a part of its cases. -/
import Derived.Test.YtamndkfgcgoacaaDoorUPmpSizes
set_option linter.unusedVariables false
set_option linter.unusedSimpArgs false
namespace Go.Proofs.YtamndkfgcgoacaaDoor.Sx
open Go
noncomputable section
set_option maxRecDepth 100000
def lawPc9 : Pc := [(q10, false), (q9, true), (q8, true), (q7, true), (q6, true), (q5, true), (q4, true), (q3, true), (q2, true), (q0, true), (q1, true)]
theorem start9_yes : lawStart lawPc9 = true := by kernel_rfl
def lawPc20 : Pc := [(q21, false), (q20, true), (q19, true), (q18, true), (q17, true), (q16, true), (q14, true), (q15, true), (q1, false)]
theorem start20_yes : lawStart lawPc20 = true := by kernel_rfl
def lawPc31 : Pc := [(q32, false), (q31, true), (q30, true), (q28, true), (q29, true), (q15, false), (q1, false)]
theorem start31_yes : lawStart lawPc31 = true := by kernel_rfl
def lawPc42 : Pc := [(q42, false), (q43, true), (q29, false), (q15, false), (q1, false)]
theorem start42_yes : lawStart lawPc42 = true := by kernel_rfl
def lawPc53 : Pc := [(q54, false), (q53, true), (q52, true), (q51, true), (q50, true), (q49, true), (q48, true), (q47, true), (q46, true), (q45, true), (q44, true), (q42, true), (q43, true), (q29, false), (q15, false), (q1, false)]
theorem start53_yes : lawStart lawPc53 = true := by kernel_rfl
def lawPc64 : Pc := [(q65, false), (q64, true), (q63, true), (q62, true), (q61, true), (q60, true), (q59, true), (q58, true), (q56, true), (q57, true), (q43, false), (q29, false), (q15, false), (q1, false)]
theorem start64_yes : lawStart lawPc64 = true := by kernel_rfl
def lawPc75 : Pc := [(q76, false), (q75, true), (q74, true), (q73, true), (q72, true), (q70, true), (q71, true), (q57, false), (q43, false), (q29, false), (q15, false), (q1, false)]
theorem start75_yes : lawStart lawPc75 = true := by kernel_rfl
def lawPc86 : Pc := [(q87, false), (q86, true), (q84, true), (q85, true), (q71, false), (q57, false), (q43, false), (q29, false), (q15, false), (q1, false)]
theorem start86_yes : lawStart lawPc86 = true := by kernel_rfl
def lawPc97 : Pc := [(q97, true), (q96, true), (q95, true), (q94, true), (q93, true), (q92, true), (q91, true), (q90, true), (q89, true), (q88, true), (q87, true), (q86, true), (q84, true), (q85, true), (q71, false), (q57, false), (q43, false), (q29, false), (q15, false), (q1, false)]
theorem start97_yes : lawStart lawPc97 = true := by kernel_rfl
def lawPc108 : Pc := [(q109, false), (q108, true), (q107, true), (q106, true), (q105, true), (q104, true), (q103, true), (q102, true), (q101, true), (q100, true), (q98, true), (q99, true), (q85, false), (q71, false), (q57, false), (q43, false), (q29, false), (q15, false), (q1, false)]
theorem start108_yes : lawStart lawPc108 = true := by kernel_rfl
end
end Go.Proofs.YtamndkfgcgoacaaDoor.Sx
