/- PmpSizes: a part of its cases. -/
import Derived.Test.YtamndkfgcgoacaaDoorUPmpSizes
set_option linter.unusedVariables false
set_option linter.unusedSimpArgs false
namespace Go.Proofs.YtamndkfgcgoacaaDoor.Sx
open Go
noncomputable section
set_option maxRecDepth 100000
def lawPc10 : Pc := [(q11, false), (q10, true), (q9, true), (q8, true), (q7, true), (q6, true), (q5, true), (q4, true), (q3, true), (q2, true), (q0, true), (q1, true)]
theorem start10_yes : lawStart lawPc10 = true := by kernel_rfl
def lawPc21 : Pc := [(q22, false), (q21, true), (q20, true), (q19, true), (q18, true), (q17, true), (q16, true), (q14, true), (q15, true), (q1, false)]
theorem start21_yes : lawStart lawPc21 = true := by kernel_rfl
def lawPc32 : Pc := [(q33, false), (q32, true), (q31, true), (q30, true), (q28, true), (q29, true), (q15, false), (q1, false)]
theorem start32_yes : lawStart lawPc32 = true := by kernel_rfl
def lawPc43 : Pc := [(q44, false), (q42, true), (q43, true), (q29, false), (q15, false), (q1, false)]
theorem start43_yes : lawStart lawPc43 = true := by kernel_rfl
def lawPc54 : Pc := [(q55, false), (q54, true), (q53, true), (q52, true), (q51, true), (q50, true), (q49, true), (q48, true), (q47, true), (q46, true), (q45, true), (q44, true), (q42, true), (q43, true), (q29, false), (q15, false), (q1, false)]
theorem start54_yes : lawStart lawPc54 = true := by kernel_rfl
def lawPc65 : Pc := [(q66, false), (q65, true), (q64, true), (q63, true), (q62, true), (q61, true), (q60, true), (q59, true), (q58, true), (q56, true), (q57, true), (q43, false), (q29, false), (q15, false), (q1, false)]
theorem start65_yes : lawStart lawPc65 = true := by kernel_rfl
def lawPc76 : Pc := [(q77, false), (q76, true), (q75, true), (q74, true), (q73, true), (q72, true), (q70, true), (q71, true), (q57, false), (q43, false), (q29, false), (q15, false), (q1, false)]
theorem start76_yes : lawStart lawPc76 = true := by kernel_rfl
def lawPc87 : Pc := [(q88, false), (q87, true), (q86, true), (q84, true), (q85, true), (q71, false), (q57, false), (q43, false), (q29, false), (q15, false), (q1, false)]
theorem start87_yes : lawStart lawPc87 = true := by kernel_rfl
def lawPc98 : Pc := [(q98, false), (q99, true), (q85, false), (q71, false), (q57, false), (q43, false), (q29, false), (q15, false), (q1, false)]
theorem start98_yes : lawStart lawPc98 = true := by kernel_rfl
def lawPc109 : Pc := [(q110, false), (q109, true), (q108, true), (q107, true), (q106, true), (q105, true), (q104, true), (q103, true), (q102, true), (q101, true), (q100, true), (q98, true), (q99, true), (q85, false), (q71, false), (q57, false), (q43, false), (q29, false), (q15, false), (q1, false)]
theorem start109_yes : lawStart lawPc109 = true := by kernel_rfl
end
end Go.Proofs.YtamndkfgcgoacaaDoor.Sx
