/- CsrWrites: a part of its cases. -/
import Derived.Test.YtffhbmkpcenkoaaDoorUCsrWrites
set_option linter.unusedVariables false
set_option linter.unusedSimpArgs false
namespace Go.Proofs.YtffhbmkpcenkoaaDoor.Sx
open Go
noncomputable section
set_option maxRecDepth 100000
def places5 : List Sx.Place := []
def lawPc5 : Pc := [((.eq (.var 32 0 255) (.lit 3)), false), ((.eq (.var 32 0 255) (.lit 2)), false), ((.eq (.var 32 0 255) (.lit 1)), false), ((.eq (.var 32 0 255) (.lit 0)), false), ((.lt (.var 31 0 65535) (.lit 512)), true), ((.lt (.var 31 0 65535) (.lit 256)), false)]
def exc5 : List Pc := []
theorem exc5_no : ∀ q ∈ exc5, ∀ i, ¬ Holds i q :=
  (fun p h => by cases h)
theorem start5_yes : startYes Tryd.prog (tabGlob tabs) lawEv 1645504557321206042154969182557350504982735865633579863348608300 lawBody lawFn 3 100000 places5 exc5 (psV lawPs 0) (stTab tabs lawPc5) = true := by kernel_rfl
theorem places5_yes : ∀ p ∈ places5, placeYes Tryd.prog (tabGlob tabs) lawEv 1645504557321206042154969182557350504982735865633579863348608300 lawBody lawFn 3 100000 places5 exc5 p = true :=
  (fun p h => by cases h)
theorem places5_paths : ∀ p ∈ places5, pathsOk p.stk :=
  (fun p h => by cases h)
def places17 : List Sx.Place := []
def lawPc17 : Pc := [((.eq (.var 32 0 255) (.lit 0)), true), ((.eq (.var 31 0 65535) (.lit 944)), true), ((.lt (.var 31 0 65535) (.lit 952)), true), ((.lt (.var 31 0 65535) (.lit 944)), false), ((.lt (.var 31 0 65535) (.lit 928)), false), ((.lt (.var 31 0 65535) (.lit 768)), false), ((.lt (.var 31 0 65535) (.lit 512)), false), ((.lt (.var 31 0 65535) (.lit 256)), false)]
def exc17 : List Pc := []
theorem exc17_no : ∀ q ∈ exc17, ∀ i, ¬ Holds i q :=
  (fun p h => by cases h)
theorem start17_yes : startYes Tryd.prog (tabGlob tabs) lawEv 1645504557321206042154969182557350504982735865633579863348608300 lawBody lawFn 3 100000 places17 exc17 (psV lawPs 0) (stTab tabs lawPc17) = true := by kernel_rfl
theorem places17_yes : ∀ p ∈ places17, placeYes Tryd.prog (tabGlob tabs) lawEv 1645504557321206042154969182557350504982735865633579863348608300 lawBody lawFn 3 100000 places17 exc17 p = true :=
  (fun p h => by cases h)
theorem places17_paths : ∀ p ∈ places17, pathsOk p.stk :=
  (fun p h => by cases h)
def places29 : List Sx.Place := []
def lawPc29 : Pc := [((.eq (.var 32 0 255) (.lit 2)), true), ((.eq (.var 32 0 255) (.lit 1)), false), ((.eq (.var 32 0 255) (.lit 0)), false), ((.eq (.var 31 0 65535) (.lit 946)), true), ((.eq (.var 31 0 65535) (.lit 945)), false), ((.eq (.var 31 0 65535) (.lit 944)), false), ((.lt (.var 31 0 65535) (.lit 952)), true), ((.lt (.var 31 0 65535) (.lit 944)), false), ((.lt (.var 31 0 65535) (.lit 928)), false), ((.lt (.var 31 0 65535) (.lit 768)), false), ((.lt (.var 31 0 65535) (.lit 512)), false), ((.lt (.var 31 0 65535) (.lit 256)), false)]
def exc29 : List Pc := []
theorem exc29_no : ∀ q ∈ exc29, ∀ i, ¬ Holds i q :=
  (fun p h => by cases h)
theorem start29_yes : startYes Tryd.prog (tabGlob tabs) lawEv 1645504557321206042154969182557350504982735865633579863348608300 lawBody lawFn 3 100000 places29 exc29 (psV lawPs 0) (stTab tabs lawPc29) = true := by kernel_rfl
theorem places29_yes : ∀ p ∈ places29, placeYes Tryd.prog (tabGlob tabs) lawEv 1645504557321206042154969182557350504982735865633579863348608300 lawBody lawFn 3 100000 places29 exc29 p = true :=
  (fun p h => by cases h)
theorem places29_paths : ∀ p ∈ places29, pathsOk p.stk :=
  (fun p h => by cases h)
def places41 : List Sx.Place := []
def lawPc41 : Pc := [((.eq (.var 32 0 255) (.lit 3)), false), ((.eq (.var 32 0 255) (.lit 2)), false), ((.eq (.var 32 0 255) (.lit 1)), false), ((.eq (.var 32 0 255) (.lit 0)), false), ((.eq (.var 31 0 65535) (.lit 948)), true), ((.eq (.var 31 0 65535) (.lit 947)), false), ((.eq (.var 31 0 65535) (.lit 946)), false), ((.eq (.var 31 0 65535) (.lit 945)), false), ((.eq (.var 31 0 65535) (.lit 944)), false), ((.lt (.var 31 0 65535) (.lit 952)), true), ((.lt (.var 31 0 65535) (.lit 944)), false), ((.lt (.var 31 0 65535) (.lit 928)), false), ((.lt (.var 31 0 65535) (.lit 768)), false), ((.lt (.var 31 0 65535) (.lit 512)), false), ((.lt (.var 31 0 65535) (.lit 256)), false)]
def exc41 : List Pc := []
theorem exc41_no : ∀ q ∈ exc41, ∀ i, ¬ Holds i q :=
  (fun p h => by cases h)
theorem start41_yes : startYes Tryd.prog (tabGlob tabs) lawEv 1645504557321206042154969182557350504982735865633579863348608300 lawBody lawFn 3 100000 places41 exc41 (psV lawPs 0) (stTab tabs lawPc41) = true := by kernel_rfl
theorem places41_yes : ∀ p ∈ places41, placeYes Tryd.prog (tabGlob tabs) lawEv 1645504557321206042154969182557350504982735865633579863348608300 lawBody lawFn 3 100000 places41 exc41 p = true :=
  (fun p h => by cases h)
theorem places41_paths : ∀ p ∈ places41, pathsOk p.stk :=
  (fun p h => by cases h)
def places53 : List Sx.Place := []
def lawPc53 : Pc := [((.eq (.var 32 0 255) (.lit 1)), true), ((.eq (.var 32 0 255) (.lit 0)), false), ((.eq (.var 31 0 65535) (.lit 950)), false), ((.eq (.var 31 0 65535) (.lit 949)), false), ((.eq (.var 31 0 65535) (.lit 948)), false), ((.eq (.var 31 0 65535) (.lit 947)), false), ((.eq (.var 31 0 65535) (.lit 946)), false), ((.eq (.var 31 0 65535) (.lit 945)), false), ((.eq (.var 31 0 65535) (.lit 944)), false), ((.lt (.var 31 0 65535) (.lit 952)), true), ((.lt (.var 31 0 65535) (.lit 944)), false), ((.lt (.var 31 0 65535) (.lit 928)), false), ((.lt (.var 31 0 65535) (.lit 768)), false), ((.lt (.var 31 0 65535) (.lit 512)), false), ((.lt (.var 31 0 65535) (.lit 256)), false)]
def exc53 : List Pc := []
theorem exc53_no : ∀ q ∈ exc53, ∀ i, ¬ Holds i q :=
  (fun p h => by cases h)
theorem start53_yes : startYes Tryd.prog (tabGlob tabs) lawEv 1645504557321206042154969182557350504982735865633579863348608300 lawBody lawFn 3 100000 places53 exc53 (psV lawPs 0) (stTab tabs lawPc53) = true := by kernel_rfl
theorem places53_yes : ∀ p ∈ places53, placeYes Tryd.prog (tabGlob tabs) lawEv 1645504557321206042154969182557350504982735865633579863348608300 lawBody lawFn 3 100000 places53 exc53 p = true :=
  (fun p h => by cases h)
theorem places53_paths : ∀ p ∈ places53, pathsOk p.stk :=
  (fun p h => by cases h)
end
end Go.Proofs.YtffhbmkpcenkoaaDoor.Sx
