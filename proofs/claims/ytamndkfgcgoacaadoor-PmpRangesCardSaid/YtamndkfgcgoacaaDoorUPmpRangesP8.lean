/- PmpRanges: one place, from which the ways are parted many times: part by part. -/
import Derived.Test.YtamndkfgcgoacaaDoorUPmpRanges
set_option linter.unusedVariables false
set_option linter.unusedSimpArgs false
namespace Go.Proofs.YtamndkfgcgoacaaDoor.Sx
open Go
noncomputable section
set_option maxRecDepth 100000
section
variable {ng : Nat} {m : Option N} {k : List It} {fr : Fr}
theorem candGo_eq {st : St} : ∀ (ps : List Sx.Place) (f : List Sx.Place → Bool), candGo ng m k fr st ps f = f (ps.filter fun p => matchP ng { p with pc := [] } m k fr st)
  | [], f => rfl
  | p :: l, f => by
    simp only [candGo, List.filter_cons]
    split
    · rename_i h; rw [candGo_eq l]; simp [h]
    · rename_i h; rw [candGo_eq l]; simp [h]
def stepS (ng : Nat) (m : Option N) (k : List It) (fr : Fr) (ps : List Sx.Place) (s : St) (b : Bool) : St := match firstNeed ng m k fr s ps with
  | some x => forkPc s x b
  | none => s
def hasNeed (ng : Nat) (m : Option N) (k : List It) (fr : Fr) (ps : List Sx.Place) (s : St) : Bool := match firstNeed ng m k fr s ps with
  | some _ => true
  | none => false
theorem cutYes_step {ps : List Sx.Place} {exc : List Pc} {n : Nat} {s : St} (hx : hasNeed ng m k fr ps s = true) (h1 : cutYes ng ps exc m k fr n (stepS ng m k fr ps s true) = true) (h2 : cutYes ng ps exc m k fr n (stepS ng m k fr ps s false) = true) : cutYes ng ps exc m k fr (n + 1) s = true := by
  unfold hasNeed at hx
  unfold stepS at h1 h2
  unfold cutYes
  split
  · rfl
  · split
    · rename_i x hq
      rw [hq] at h1 h2
      simp only at h1 h2
      rw [h1, h2]; rfl
    · rename_i hq
      rw [hq] at hx; cases hx
end
def isCut1 : List Stp → Bool
  | [.cut _ _ _] => true
  | _ => false
def kOf : List Stp → List It
  | [.cut k _ _] => k
  | _ => []
def frOf : List Stp → Fr
  | [.cut _ fr _] => fr
  | _ => ([], [])
def stOf : List Stp → St
  | [.cut _ _ st] => st
  | _ => { nxt := 0, hp := .nil, pc := [] }
theorem cut1_eq {l : List Stp} (h : isCut1 l = true) : l = [.cut (kOf l) (frOf l) (stOf l)] := by
  unfold isCut1 at h
  split at h
  · rfl
  · cases h
def isS {α : Type} : Option α → Bool
  | some _ => true
  | none => false
def drvP : Option (List Stp) := drv Tryd.prog (tabGlob tabs) { ev := lawEv, rs := [], ro := none } 300 lawBody (isCutOf places0) 100000 true place0_76.stk (place0_76.tm, []) place0_76.st
def lP : List Stp := match drvP with
  | some l => l
  | none => []
theorem drvP_some : isS drvP = true := by kernel_rfl
theorem lP_cut : isCut1 lP = true := by kernel_rfl
theorem drvP_eq : drvP = some lP := by
  have h := drvP_some
  unfold lP
  cases hq : drvP with
  | some l => rfl
  | none => rw [hq] at h; cases h
def mP : Option N := some place0_76.meas
def cP : List Sx.Place := places0.filter fun p => matchP 1 { p with pc := [] } mP (kOf lP) (frOf lP) (stOf lP)
def sP : Nat → St
  | 0 => stOf lP
  | n + 1 => stepS 1 mP (kOf lP) (frOf lP) cP (sP n) false
end
end Go.Proofs.YtamndkfgcgoacaaDoor.Sx
