/- PmpSizes: a part of its cases. -/
import Derived.Test.YtamndkfgcgoacaaDoorUPmpSizes
set_option linter.unusedVariables false
set_option linter.unusedSimpArgs false
namespace Go.Proofs.YtamndkfgcgoacaaDoor.Sx
open Go
noncomputable section
set_option maxRecDepth 100000
def lawPc0 : Pc := [(q0, false), (q1, true)]
theorem start0_yes : lawStart lawPc0 = true := by kernel_rfl
def lawPc11 : Pc := [(q12, false), (q11, true), (q10, true), (q9, true), (q8, true), (q7, true), (q6, true), (q5, true), (q4, true), (q3, true), (q2, true), (q0, true), (q1, true)]
theorem start11_yes : lawStart lawPc11 = true := by kernel_rfl
def lawPc22 : Pc := [(q23, false), (q22, true), (q21, true), (q20, true), (q19, true), (q18, true), (q17, true), (q16, true), (q14, true), (q15, true), (q1, false)]
theorem start22_yes : lawStart lawPc22 = true := by kernel_rfl
def lawPc33 : Pc := [(q34, false), (q33, true), (q32, true), (q31, true), (q30, true), (q28, true), (q29, true), (q15, false), (q1, false)]
theorem start33_yes : lawStart lawPc33 = true := by kernel_rfl
def lawPc44 : Pc := [(q45, false), (q44, true), (q42, true), (q43, true), (q29, false), (q15, false), (q1, false)]
theorem start44_yes : lawStart lawPc44 = true := by kernel_rfl
def lawPc55 : Pc := [(q55, true), (q54, true), (q53, true), (q52, true), (q51, true), (q50, true), (q49, true), (q48, true), (q47, true), (q46, true), (q45, true), (q44, true), (q42, true), (q43, true), (q29, false), (q15, false), (q1, false)]
theorem start55_yes : lawStart lawPc55 = true := by kernel_rfl
def lawPc66 : Pc := [(q67, false), (q66, true), (q65, true), (q64, true), (q63, true), (q62, true), (q61, true), (q60, true), (q59, true), (q58, true), (q56, true), (q57, true), (q43, false), (q29, false), (q15, false), (q1, false)]
theorem start66_yes : lawStart lawPc66 = true := by kernel_rfl
def lawPc77 : Pc := [(q78, false), (q77, true), (q76, true), (q75, true), (q74, true), (q73, true), (q72, true), (q70, true), (q71, true), (q57, false), (q43, false), (q29, false), (q15, false), (q1, false)]
theorem start77_yes : lawStart lawPc77 = true := by kernel_rfl
def lawPc88 : Pc := [(q89, false), (q88, true), (q87, true), (q86, true), (q84, true), (q85, true), (q71, false), (q57, false), (q43, false), (q29, false), (q15, false), (q1, false)]
theorem start88_yes : lawStart lawPc88 = true := by kernel_rfl
def lawPc99 : Pc := [(q100, false), (q98, true), (q99, true), (q85, false), (q71, false), (q57, false), (q43, false), (q29, false), (q15, false), (q1, false)]
theorem start99_yes : lawStart lawPc99 = true := by kernel_rfl
def lawPc110 : Pc := [(q111, false), (q110, true), (q109, true), (q108, true), (q107, true), (q106, true), (q105, true), (q104, true), (q103, true), (q102, true), (q101, true), (q100, true), (q98, true), (q99, true), (q85, false), (q71, false), (q57, false), (q43, false), (q29, false), (q15, false), (q1, false)]
theorem start110_yes : lawStart lawPc110 = true := by kernel_rfl
end
end Go.Proofs.YtamndkfgcgoacaaDoor.Sx
