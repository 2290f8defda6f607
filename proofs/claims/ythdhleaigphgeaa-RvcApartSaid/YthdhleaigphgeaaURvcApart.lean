/- RvcApart: what is told of it ahead. -/
import Derived.Test.YthdhleaigphgeaaUd
import Derived.Test.YthdhleaigphgeaaTRvcForms
set_option linter.unusedVariables false
set_option linter.unusedSimpArgs false
namespace Go.Proofs.Ythdhleaigphgeaa.Sx
open Go
noncomputable section
set_option maxRecDepth 100000
noncomputable abbrev lawFn : Func := Try.f6
noncomputable abbrev lawBody : Code := ((Try.f6.body).getD .skip)
noncomputable abbrev lawEv : Ev := ev Try.prog noGlob base 822752278660603021077484591278675252491367932816789931674304812 30
def lawPs : List Ps := [.one (some .u16), .one (some .u16)]
def q0 : N := (.eq (.ar .and .u16 (.var 1 0 65535) (.lit 3)) (.lit 0))
def q1 : N := (.eq (.ar .or .i64 (.ar .or .i64 (.ar .or .i64 (.ar .shl .i64 (.ar .and .u16 (.ar .shr .u16 (.var 0 0 65535) (.lit 11)) (.lit 3)) (.lit 4)) (.ar .shl .i64 (.ar .and .u16 (.ar .shr .u16 (.var 0 0 65535) (.lit 7)) (.lit 15)) (.lit 6))) (.ar .shl .i64 (.ar .and .u16 (.ar .shr .u16 (.var 0 0 65535) (.lit 6)) (.lit 1)) (.lit 2))) (.ar .shl .i64 (.ar .and .u16 (.ar .shr .u16 (.var 0 0 65535) (.lit 5)) (.lit 1)) (.lit 3))) (.lit 0))
def q2 : N := (.eq (.ar .shr .u16 (.var 0 0 65535) (.lit 13)) (.lit 0))
def q3 : N := (.eq (.ar .and .u16 (.var 0 0 65535) (.lit 3)) (.lit 0))
def q4 : N := (.lt (.ar .shr .u16 (.var 1 0 65535) (.lit 13)) (.lit 4))
def q5 : N := (.eq (.ar .and .u16 (.var 1 0 65535) (.lit 3)) (.lit 1))
def q6 : N := (.eq (.ar .shr .u16 (.var 1 0 65535) (.lit 13)) (.lit 5))
def q7 : N := (.eq (.ar .shr .u16 (.var 1 0 65535) (.lit 13)) (.lit 0))
def q8 : N := (.eq (.ar .and .u16 (.var 1 0 65535) (.lit 3)) (.lit 2))
def q9 : N := (.eq (.ar .shr .u16 (.var 1 0 65535) (.lit 13)) (.lit 2))
def q10 : N := (.eq (.ar .shr .u16 (.var 1 0 65535) (.lit 13)) (.lit 3))
def q11 : N := (.eq (.ar .shr .u16 (.var 0 0 65535) (.lit 13)) (.lit 2))
def q12 : N := (.eq (.ar .shr .u16 (.var 0 0 65535) (.lit 13)) (.lit 3))
def q13 : N := (.eq (.ar .shr .u16 (.var 0 0 65535) (.lit 13)) (.lit 6))
def q14 : N := (.eq (.ar .shr .u16 (.var 0 0 65535) (.lit 13)) (.lit 7))
def q15 : N := (.lt (.ar .shr .u16 (.var 0 0 65535) (.lit 13)) (.lit 4))
def q16 : N := (.eq (.ar .and .u16 (.var 0 0 65535) (.lit 3)) (.lit 1))
def q17 : N := (.eq (.ar .shr .u16 (.var 1 0 65535) (.lit 13)) (.lit 1))
def q18 : N := (.eq (.ar .and .u16 (.ar .shr .u16 (.var 0 0 65535) (.lit 7)) (.lit 31)) (.lit 0))
def q19 : N := (.eq (.ar .shr .u16 (.var 0 0 65535) (.lit 13)) (.lit 1))
def q20 : N := (.eq (.ar .shr .i64 (.ar .shl .i64 (.ar .or .i64 (.ar .or .i64 (.ar .or .i64 (.ar .or .i64 (.ar .shl .i64 (.ar .and .u16 (.ar .shr .u16 (.var 0 0 65535) (.lit 12)) (.lit 1)) (.lit 9)) (.ar .shl .i64 (.ar .and .u16 (.ar .shr .u16 (.var 0 0 65535) (.lit 6)) (.lit 1)) (.lit 4))) (.ar .shl .i64 (.ar .and .u16 (.ar .shr .u16 (.var 0 0 65535) (.lit 5)) (.lit 1)) (.lit 6))) (.ar .shl .i64 (.ar .and .u16 (.ar .shr .u16 (.var 0 0 65535) (.lit 3)) (.lit 3)) (.lit 7))) (.ar .shl .i64 (.ar .and .u16 (.ar .shr .u16 (.var 0 0 65535) (.lit 2)) (.lit 1)) (.lit 5))) (.lit 54)) (.lit 54)) (.lit 0))
def q21 : N := (.eq (.ar .and .u16 (.var 0 0 65535) (.lit 61315)) (.lit 24833))
def q22 : N := (.eq (.ar .shr .i64 (.ar .shl .i64 (.ar .or .i64 (.ar .and .u16 (.ar .shr .u16 (.var 0 0 65535) (.lit 2)) (.lit 31)) (.ar .shl .i64 (.ar .and .u16 (.ar .shr .u16 (.var 0 0 65535) (.lit 12)) (.lit 1)) (.lit 5))) (.lit 58)) (.lit 58)) (.lit 0))
def q23 : N := (.eq (.ar .shr .u16 (.var 0 0 65535) (.lit 13)) (.lit 5))
def q24 : N := (.eq (.ar .shr .u16 (.var 1 0 65535) (.lit 13)) (.lit 6))
def q25 : N := (.eq (.ar .shr .u16 (.var 1 0 65535) (.lit 13)) (.lit 7))
def q26 : N := (.eq (.ar .and .u16 (.var 0 0 65535) (.lit 60419)) (.lit 32769))
def q27 : N := (.eq (.ar .and .u16 (.var 1 0 65535) (.lit 60419)) (.lit 32769))
def q28 : N := (.eq (.ar .and .u16 (.var 0 0 65535) (.lit 60419)) (.lit 33793))
def q29 : N := (.eq (.ar .and .u16 (.var 1 0 65535) (.lit 60419)) (.lit 33793))
def q30 : N := (.eq (.ar .and .u16 (.var 0 0 65535) (.lit 60419)) (.lit 34817))
def q31 : N := (.eq (.ar .and .u16 (.var 0 0 65535) (.lit 64611)) (.lit 35841))
def q32 : N := (.eq (.ar .and .u16 (.var 0 0 65535) (.lit 64611)) (.lit 35873))
def q33 : N := (.eq (.ar .and .u16 (.var 0 0 65535) (.lit 64611)) (.lit 35905))
def q34 : N := (.eq (.ar .and .u16 (.var 0 0 65535) (.lit 64611)) (.lit 35937))
def q35 : N := (.eq (.ar .and .u16 (.var 0 0 65535) (.lit 64611)) (.lit 39937))
def q36 : N := (.eq (.ar .and .u16 (.var 0 0 65535) (.lit 64611)) (.lit 39969))
def q37 : N := (.eq (.ar .and .u16 (.var 1 0 65535) (.lit 60419)) (.lit 34817))
def q38 : N := (.eq (.ar .and .u16 (.var 1 0 65535) (.lit 64611)) (.lit 35841))
def q39 : N := (.eq (.ar .and .u16 (.var 0 0 65535) (.lit 3)) (.lit 2))
def q40 : N := (.eq (.ar .and .u16 (.var 0 0 65535) (.lit 61567)) (.lit 32770))
def q41 : N := (.eq (.ar .shr .u16 (.var 0 0 65535) (.lit 13)) (.lit 4))
def q42 : N := (.eq (.ar .shr .u16 (.var 1 0 65535) (.lit 13)) (.lit 4))
def q43 : N := (.eq (.ar .and .u16 (.var 1 0 65535) (.lit 61567)) (.lit 32770))
def q44 : N := (.eq (.ar .and .u16 (.var 0 0 65535) (.lit 61443)) (.lit 32770))
def q45 : N := (.eq (.ar .and .u16 (.var 1 0 65535) (.lit 61443)) (.lit 32770))
def q46 : N := (.eq (.var 0 0 65535) (.lit 36866))
def q47 : N := (.eq (.ar .and .u16 (.var 0 0 65535) (.lit 61567)) (.lit 36866))
def q48 : N := (.eq (.ar .and .u16 (.var 0 0 65535) (.lit 61443)) (.lit 36866))
def q49 : N := (.eq (.var 1 0 65535) (.lit 36866))
def placesE : List Sx.Place := []
def excE : List Pc := []
def lf0 : Nat := 822752278660603021077484591278675252491367932816789931674304812
theorem excE_no : ∀ q ∈ excE, ∀ i, ¬ Holds i q := by intro q hq; cases hq
theorem placesE_paths : ∀ p ∈ placesE, pathsOk p.stk := fun p h => by cases h
noncomputable abbrev lawStart (pc : Pc) : Bool := startYes Try.prog noGlob lawEv 822752278660603021077484591278675252491367932816789931674304812 lawBody lawFn 0 100000 placesE excE (psV lawPs 0) { nxt := 0, hp := .nil, pc := pc }
theorem placesE_yes : ∀ p ∈ placesE, placeYes Try.prog noGlob lawEv 822752278660603021077484591278675252491367932816789931674304812 lawBody lawFn 0 100000 placesE excE p = true := fun p h => by cases h
end
end Go.Proofs.Ythdhleaigphgeaa.Sx
