/- CsrWrites: a part of its cases. -/
import Derived.Test.YtffhbmkpcenkoaaDoorUCsrWrites
set_option linter.unusedVariables false
set_option linter.unusedSimpArgs false
namespace Go.Proofs.YtffhbmkpcenkoaaDoor.Sx
open Go
noncomputable section
set_option maxRecDepth 100000
def places0 : List Sx.Place := []
def lawPc0 : Pc := [((.lt (.var 31 0 65535) (.lit 256)), true)]
def exc0 : List Pc := []
theorem exc0_no : ∀ q ∈ exc0, ∀ i, ¬ Holds i q :=
  (fun p h => by cases h)
theorem start0_yes : startYes Tryd.prog (tabGlob tabs) lawEv 1645504557321206042154969182557350504982735865633579863348608300 lawBody lawFn 3 100000 places0 exc0 (psV lawPs 0) (stTab tabs lawPc0) = true := by kernel_rfl
theorem places0_yes : ∀ p ∈ places0, placeYes Tryd.prog (tabGlob tabs) lawEv 1645504557321206042154969182557350504982735865633579863348608300 lawBody lawFn 3 100000 places0 exc0 p = true :=
  (fun p h => by cases h)
theorem places0_paths : ∀ p ∈ places0, pathsOk p.stk :=
  (fun p h => by cases h)
def places12 : List Sx.Place := []
def lawPc12 : Pc := [((.eq (.var 32 0 255) (.lit 0)), true), ((.lt (.var 31 0 65535) (.lit 944)), true), ((.lt (.var 31 0 65535) (.lit 928)), false), ((.lt (.var 31 0 65535) (.lit 768)), false), ((.lt (.var 31 0 65535) (.lit 512)), false), ((.lt (.var 31 0 65535) (.lit 256)), false)]
def exc12 : List Pc := []
theorem exc12_no : ∀ q ∈ exc12, ∀ i, ¬ Holds i q :=
  (fun p h => by cases h)
theorem start12_yes : startYes Tryd.prog (tabGlob tabs) lawEv 1645504557321206042154969182557350504982735865633579863348608300 lawBody lawFn 3 100000 places12 exc12 (psV lawPs 0) (stTab tabs lawPc12) = true := by kernel_rfl
theorem places12_yes : ∀ p ∈ places12, placeYes Tryd.prog (tabGlob tabs) lawEv 1645504557321206042154969182557350504982735865633579863348608300 lawBody lawFn 3 100000 places12 exc12 p = true :=
  (fun p h => by cases h)
theorem places12_paths : ∀ p ∈ places12, pathsOk p.stk :=
  (fun p h => by cases h)
def places24 : List Sx.Place := []
def lawPc24 : Pc := [((.eq (.var 32 0 255) (.lit 2)), true), ((.eq (.var 32 0 255) (.lit 1)), false), ((.eq (.var 32 0 255) (.lit 0)), false), ((.eq (.var 31 0 65535) (.lit 945)), true), ((.eq (.var 31 0 65535) (.lit 944)), false), ((.lt (.var 31 0 65535) (.lit 952)), true), ((.lt (.var 31 0 65535) (.lit 944)), false), ((.lt (.var 31 0 65535) (.lit 928)), false), ((.lt (.var 31 0 65535) (.lit 768)), false), ((.lt (.var 31 0 65535) (.lit 512)), false), ((.lt (.var 31 0 65535) (.lit 256)), false)]
def exc24 : List Pc := []
theorem exc24_no : ∀ q ∈ exc24, ∀ i, ¬ Holds i q :=
  (fun p h => by cases h)
theorem start24_yes : startYes Tryd.prog (tabGlob tabs) lawEv 1645504557321206042154969182557350504982735865633579863348608300 lawBody lawFn 3 100000 places24 exc24 (psV lawPs 0) (stTab tabs lawPc24) = true := by kernel_rfl
theorem places24_yes : ∀ p ∈ places24, placeYes Tryd.prog (tabGlob tabs) lawEv 1645504557321206042154969182557350504982735865633579863348608300 lawBody lawFn 3 100000 places24 exc24 p = true :=
  (fun p h => by cases h)
theorem places24_paths : ∀ p ∈ places24, pathsOk p.stk :=
  (fun p h => by cases h)
def places36 : List Sx.Place := []
def lawPc36 : Pc := [((.eq (.var 32 0 255) (.lit 3)), false), ((.eq (.var 32 0 255) (.lit 2)), false), ((.eq (.var 32 0 255) (.lit 1)), false), ((.eq (.var 32 0 255) (.lit 0)), false), ((.eq (.var 31 0 65535) (.lit 947)), true), ((.eq (.var 31 0 65535) (.lit 946)), false), ((.eq (.var 31 0 65535) (.lit 945)), false), ((.eq (.var 31 0 65535) (.lit 944)), false), ((.lt (.var 31 0 65535) (.lit 952)), true), ((.lt (.var 31 0 65535) (.lit 944)), false), ((.lt (.var 31 0 65535) (.lit 928)), false), ((.lt (.var 31 0 65535) (.lit 768)), false), ((.lt (.var 31 0 65535) (.lit 512)), false), ((.lt (.var 31 0 65535) (.lit 256)), false)]
def exc36 : List Pc := []
theorem exc36_no : ∀ q ∈ exc36, ∀ i, ¬ Holds i q :=
  (fun p h => by cases h)
theorem start36_yes : startYes Tryd.prog (tabGlob tabs) lawEv 1645504557321206042154969182557350504982735865633579863348608300 lawBody lawFn 3 100000 places36 exc36 (psV lawPs 0) (stTab tabs lawPc36) = true := by kernel_rfl
theorem places36_yes : ∀ p ∈ places36, placeYes Tryd.prog (tabGlob tabs) lawEv 1645504557321206042154969182557350504982735865633579863348608300 lawBody lawFn 3 100000 places36 exc36 p = true :=
  (fun p h => by cases h)
theorem places36_paths : ∀ p ∈ places36, pathsOk p.stk :=
  (fun p h => by cases h)
def places48 : List Sx.Place := []
def lawPc48 : Pc := [((.eq (.var 32 0 255) (.lit 1)), true), ((.eq (.var 32 0 255) (.lit 0)), false), ((.eq (.var 31 0 65535) (.lit 950)), true), ((.eq (.var 31 0 65535) (.lit 949)), false), ((.eq (.var 31 0 65535) (.lit 948)), false), ((.eq (.var 31 0 65535) (.lit 947)), false), ((.eq (.var 31 0 65535) (.lit 946)), false), ((.eq (.var 31 0 65535) (.lit 945)), false), ((.eq (.var 31 0 65535) (.lit 944)), false), ((.lt (.var 31 0 65535) (.lit 952)), true), ((.lt (.var 31 0 65535) (.lit 944)), false), ((.lt (.var 31 0 65535) (.lit 928)), false), ((.lt (.var 31 0 65535) (.lit 768)), false), ((.lt (.var 31 0 65535) (.lit 512)), false), ((.lt (.var 31 0 65535) (.lit 256)), false)]
def exc48 : List Pc := []
theorem exc48_no : ∀ q ∈ exc48, ∀ i, ¬ Holds i q :=
  (fun p h => by cases h)
theorem start48_yes : startYes Tryd.prog (tabGlob tabs) lawEv 1645504557321206042154969182557350504982735865633579863348608300 lawBody lawFn 3 100000 places48 exc48 (psV lawPs 0) (stTab tabs lawPc48) = true := by kernel_rfl
theorem places48_yes : ∀ p ∈ places48, placeYes Tryd.prog (tabGlob tabs) lawEv 1645504557321206042154969182557350504982735865633579863348608300 lawBody lawFn 3 100000 places48 exc48 p = true :=
  (fun p h => by cases h)
theorem places48_paths : ∀ p ∈ places48, pathsOk p.stk :=
  (fun p h => by cases h)
def places60 : List Sx.Place := []
def lawPc60 : Pc := [((.eq (.var 32 0 255) (.lit 3)), true), ((.eq (.var 32 0 255) (.lit 2)), false), ((.eq (.var 32 0 255) (.lit 1)), false), ((.eq (.var 32 0 255) (.lit 0)), false), ((.lt (.var 31 0 65535) (.lit 952)), false), ((.lt (.var 31 0 65535) (.lit 944)), false), ((.lt (.var 31 0 65535) (.lit 928)), false), ((.lt (.var 31 0 65535) (.lit 768)), false), ((.lt (.var 31 0 65535) (.lit 512)), false), ((.lt (.var 31 0 65535) (.lit 256)), false)]
def exc60 : List Pc := []
theorem exc60_no : ∀ q ∈ exc60, ∀ i, ¬ Holds i q :=
  (fun p h => by cases h)
theorem start60_yes : startYes Tryd.prog (tabGlob tabs) lawEv 1645504557321206042154969182557350504982735865633579863348608300 lawBody lawFn 3 100000 places60 exc60 (psV lawPs 0) (stTab tabs lawPc60) = true := by kernel_rfl
theorem places60_yes : ∀ p ∈ places60, placeYes Tryd.prog (tabGlob tabs) lawEv 1645504557321206042154969182557350504982735865633579863348608300 lawBody lawFn 3 100000 places60 exc60 p = true :=
  (fun p h => by cases h)
theorem places60_paths : ∀ p ∈ places60, pathsOk p.stk :=
  (fun p h => by cases h)
end
end Go.Proofs.YtffhbmkpcenkoaaDoor.Sx
