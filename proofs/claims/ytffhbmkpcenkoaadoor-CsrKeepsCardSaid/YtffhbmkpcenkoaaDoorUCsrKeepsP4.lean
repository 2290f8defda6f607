/- CsrKeeps: a part of its cases. -/
import Derived.Test.YtffhbmkpcenkoaaDoorUCsrKeeps
set_option linter.unusedVariables false
set_option linter.unusedSimpArgs false
namespace Go.Proofs.YtffhbmkpcenkoaaDoor.Sx
open Go
noncomputable section
set_option maxRecDepth 100000
def places4 : List Sx.Place := []
def lawPc4 : Pc := [((.eq (.var 31 0 65535) (.lit 260)), true), ((.lt (.var 31 0 65535) (.lit 263)), true), ((.lt (.var 31 0 65535) (.lit 260)), false), ((.lt (.var 31 0 65535) (.lit 257)), false), ((.lt (.var 31 0 65535) (.lit 320)), true), ((.lt (.var 31 0 65535) (.lit 832)), true)]
def exc4 : List Pc := []
theorem start4_yes : startYes Tryd.prog (tabGlob tabs) lawEv 1645504557321206042154969182557350504982735865633579863348608300 lawBody lawFn 3 100000 places4 exc4 (psV lawPs 0) (stTab tabs lawPc4) = true := by kernel_rfl
theorem places4_yes : ∀ p ∈ places4, placeYes Tryd.prog (tabGlob tabs) lawEv 1645504557321206042154969182557350504982735865633579863348608300 lawBody lawFn 3 100000 places4 exc4 p = true :=
  (fun p h => by cases h)
theorem places4_paths : ∀ p ∈ places4, pathsOk p.stk :=
  (fun p h => by cases h)
theorem exc4_no : ∀ q ∈ exc4, ∀ i, ¬ Holds i q := by intro q hq; cases hq
def places10 : List Sx.Place := []
def lawPc10 : Pc := [((.eq (.var 31 0 65535) (.lit 321)), true), ((.eq (.var 31 0 65535) (.lit 320)), false), ((.lt (.var 31 0 65535) (.lit 325)), true), ((.lt (.var 31 0 65535) (.lit 385)), true), ((.lt (.var 31 0 65535) (.lit 320)), false), ((.lt (.var 31 0 65535) (.lit 832)), true)]
def exc10 : List Pc := []
theorem start10_yes : startYes Tryd.prog (tabGlob tabs) lawEv 1645504557321206042154969182557350504982735865633579863348608300 lawBody lawFn 3 100000 places10 exc10 (psV lawPs 0) (stTab tabs lawPc10) = true := by kernel_rfl
theorem places10_yes : ∀ p ∈ places10, placeYes Tryd.prog (tabGlob tabs) lawEv 1645504557321206042154969182557350504982735865633579863348608300 lawBody lawFn 3 100000 places10 exc10 p = true :=
  (fun p h => by cases h)
theorem places10_paths : ∀ p ∈ places10, pathsOk p.stk :=
  (fun p h => by cases h)
theorem exc10_no : ∀ q ∈ exc10, ∀ i, ¬ Holds i q := by intro q hq; cases hq
def places16 : List Sx.Place := []
def lawPc16 : Pc := [((.eq (.var 31 0 65535) (.lit 384)), true), ((.lt (.var 31 0 65535) (.lit 384)), false), ((.lt (.var 31 0 65535) (.lit 325)), false), ((.lt (.var 31 0 65535) (.lit 385)), true), ((.lt (.var 31 0 65535) (.lit 320)), false), ((.lt (.var 31 0 65535) (.lit 832)), true)]
def exc16 : List Pc := []
theorem start16_yes : startYes Tryd.prog (tabGlob tabs) lawEv 1645504557321206042154969182557350504982735865633579863348608300 lawBody lawFn 3 100000 places16 exc16 (psV lawPs 0) (stTab tabs lawPc16) = true := by kernel_rfl
theorem places16_yes : ∀ p ∈ places16, placeYes Tryd.prog (tabGlob tabs) lawEv 1645504557321206042154969182557350504982735865633579863348608300 lawBody lawFn 3 100000 places16 exc16 p = true :=
  (fun p h => by cases h)
theorem places16_paths : ∀ p ∈ places16, pathsOk p.stk :=
  (fun p h => by cases h)
theorem exc16_no : ∀ q ∈ exc16, ∀ i, ¬ Holds i q := by intro q hq; cases hq
def places22 : List Sx.Place := []
def lawPc22 : Pc := [((.eq (.var 31 0 65535) (.lit 771)), true), ((.eq (.var 31 0 65535) (.lit 770)), false), ((.eq (.var 31 0 65535) (.lit 769)), false), ((.eq (.var 31 0 65535) (.lit 768)), false), ((.lt (.var 31 0 65535) (.lit 775)), true), ((.lt (.var 31 0 65535) (.lit 768)), false), ((.lt (.var 31 0 65535) (.lit 385)), false), ((.lt (.var 31 0 65535) (.lit 320)), false), ((.lt (.var 31 0 65535) (.lit 832)), true)]
def exc22 : List Pc := []
theorem start22_yes : startYes Tryd.prog (tabGlob tabs) lawEv 1645504557321206042154969182557350504982735865633579863348608300 lawBody lawFn 3 100000 places22 exc22 (psV lawPs 0) (stTab tabs lawPc22) = true := by kernel_rfl
theorem places22_yes : ∀ p ∈ places22, placeYes Tryd.prog (tabGlob tabs) lawEv 1645504557321206042154969182557350504982735865633579863348608300 lawBody lawFn 3 100000 places22 exc22 p = true :=
  (fun p h => by cases h)
theorem places22_paths : ∀ p ∈ places22, pathsOk p.stk :=
  (fun p h => by cases h)
theorem exc22_no : ∀ q ∈ exc22, ∀ i, ¬ Holds i q := by intro q hq; cases hq
def places28 : List Sx.Place := []
def lawPc28 : Pc := [((.eq (.var 31 0 65535) (.lit 832)), true), ((.lt (.var 31 0 65535) (.lit 837)), true), ((.lt (.var 31 0 65535) (.lit 929)), true), ((.lt (.var 31 0 65535) (.lit 2816)), true), ((.lt (.var 31 0 65535) (.lit 832)), false)]
def exc28 : List Pc := []
theorem start28_yes : startYes Tryd.prog (tabGlob tabs) lawEv 1645504557321206042154969182557350504982735865633579863348608300 lawBody lawFn 3 100000 places28 exc28 (psV lawPs 0) (stTab tabs lawPc28) = true := by kernel_rfl
theorem places28_yes : ∀ p ∈ places28, placeYes Tryd.prog (tabGlob tabs) lawEv 1645504557321206042154969182557350504982735865633579863348608300 lawBody lawFn 3 100000 places28 exc28 p = true :=
  (fun p h => by cases h)
theorem places28_paths : ∀ p ∈ places28, pathsOk p.stk :=
  (fun p h => by cases h)
theorem exc28_no : ∀ q ∈ exc28, ∀ i, ¬ Holds i q := by intro q hq; cases hq
def places34 : List Sx.Place := []
def lawPc34 : Pc := [((.lt (.var 31 0 65535) (.lit 928)), true), ((.lt (.var 31 0 65535) (.lit 837)), false), ((.lt (.var 31 0 65535) (.lit 929)), true), ((.lt (.var 31 0 65535) (.lit 2816)), true), ((.lt (.var 31 0 65535) (.lit 832)), false)]
def exc34 : List Pc := []
theorem start34_yes : startYes Tryd.prog (tabGlob tabs) lawEv 1645504557321206042154969182557350504982735865633579863348608300 lawBody lawFn 3 100000 places34 exc34 (psV lawPs 0) (stTab tabs lawPc34) = true := by kernel_rfl
theorem places34_yes : ∀ p ∈ places34, placeYes Tryd.prog (tabGlob tabs) lawEv 1645504557321206042154969182557350504982735865633579863348608300 lawBody lawFn 3 100000 places34 exc34 p = true :=
  (fun p h => by cases h)
theorem places34_paths : ∀ p ∈ places34, pathsOk p.stk :=
  (fun p h => by cases h)
theorem exc34_no : ∀ q ∈ exc34, ∀ i, ¬ Holds i q := by intro q hq; cases hq
def lawPc40 : Pc := [((.eq (.var 31 0 65535) (.lit 928)), false), ((.lt (.var 31 0 65535) (.lit 928)), false), ((.lt (.var 31 0 65535) (.lit 837)), false), ((.lt (.var 31 0 65535) (.lit 929)), true), ((.lt (.var 31 0 65535) (.lit 2816)), true), ((.lt (.var 31 0 65535) (.lit 832)), false)]
theorem x40_no (i : Nat → Int) (hh : Holds i lawPc40) : False := by
  have h0 := hh _ _ (.head _)
  have h1 := hh _ _ (.tail _ (.head _))
  have h2 := hh _ _ (.tail _ (.tail _ (.head _)))
  have h3 := hh _ _ (.tail _ (.tail _ (.tail _ (.head _))))
  have h4 := hh _ _ (.tail _ (.tail _ (.tail _ (.tail _ (.head _)))))
  have h5 := hh _ _ (.tail _ (.tail _ (.tail _ (.tail _ (.tail _ (.head _))))))
  clear hh
  simp only [N.den, true_iff, Bool.false_eq_true, false_iff, bI_ne, ieq_iff, ilt_iff, Classical.not_not, ne_eq] at h0 h1 h2 h3 h4 h5
  omega
def places46 : List Sx.Place := []
def lawPc46 : Pc := [((.eq (.var 31 0 65535) (.lit 948)), true), ((.eq (.var 31 0 65535) (.lit 947)), false), ((.eq (.var 31 0 65535) (.lit 946)), false), ((.eq (.var 31 0 65535) (.lit 945)), false), ((.eq (.var 31 0 65535) (.lit 944)), false), ((.lt (.var 31 0 65535) (.lit 952)), true), ((.lt (.var 31 0 65535) (.lit 944)), false), ((.lt (.var 31 0 65535) (.lit 929)), false), ((.lt (.var 31 0 65535) (.lit 2816)), true), ((.lt (.var 31 0 65535) (.lit 832)), false)]
def exc46 : List Pc := []
theorem start46_yes : startYes Tryd.prog (tabGlob tabs) lawEv 1645504557321206042154969182557350504982735865633579863348608300 lawBody lawFn 3 100000 places46 exc46 (psV lawPs 0) (stTab tabs lawPc46) = true := by kernel_rfl
theorem places46_yes : ∀ p ∈ places46, placeYes Tryd.prog (tabGlob tabs) lawEv 1645504557321206042154969182557350504982735865633579863348608300 lawBody lawFn 3 100000 places46 exc46 p = true :=
  (fun p h => by cases h)
theorem places46_paths : ∀ p ∈ places46, pathsOk p.stk :=
  (fun p h => by cases h)
theorem exc46_no : ∀ q ∈ exc46, ∀ i, ¬ Holds i q := by intro q hq; cases hq
def places52 : List Sx.Place := []
def lawPc52 : Pc := [((.eq (.var 31 0 65535) (.lit 2816)), true), ((.lt (.var 31 0 65535) (.lit 2819)), true), ((.lt (.var 31 0 65535) (.lit 3075)), true), ((.lt (.var 31 0 65535) (.lit 2816)), false), ((.lt (.var 31 0 65535) (.lit 832)), false)]
def exc52 : List Pc := []
theorem start52_yes : startYes Tryd.prog (tabGlob tabs) lawEv 1645504557321206042154969182557350504982735865633579863348608300 lawBody lawFn 3 100000 places52 exc52 (psV lawPs 0) (stTab tabs lawPc52) = true := by kernel_rfl
theorem places52_yes : ∀ p ∈ places52, placeYes Tryd.prog (tabGlob tabs) lawEv 1645504557321206042154969182557350504982735865633579863348608300 lawBody lawFn 3 100000 places52 exc52 p = true :=
  (fun p h => by cases h)
theorem places52_paths : ∀ p ∈ places52, pathsOk p.stk :=
  (fun p h => by cases h)
theorem exc52_no : ∀ q ∈ exc52, ∀ i, ¬ Holds i q := by intro q hq; cases hq
def places58 : List Sx.Place := []
def lawPc58 : Pc := [((.eq (.var 31 0 65535) (.lit 3074)), true), ((.eq (.var 31 0 65535) (.lit 3073)), false), ((.eq (.var 31 0 65535) (.lit 3072)), false), ((.lt (.var 31 0 65535) (.lit 3072)), false), ((.lt (.var 31 0 65535) (.lit 2819)), false), ((.lt (.var 31 0 65535) (.lit 3075)), true), ((.lt (.var 31 0 65535) (.lit 2816)), false), ((.lt (.var 31 0 65535) (.lit 832)), false)]
def exc58 : List Pc := []
theorem start58_yes : startYes Tryd.prog (tabGlob tabs) lawEv 1645504557321206042154969182557350504982735865633579863348608300 lawBody lawFn 3 100000 places58 exc58 (psV lawPs 0) (stTab tabs lawPc58) = true := by kernel_rfl
theorem places58_yes : ∀ p ∈ places58, placeYes Tryd.prog (tabGlob tabs) lawEv 1645504557321206042154969182557350504982735865633579863348608300 lawBody lawFn 3 100000 places58 exc58 p = true :=
  (fun p h => by cases h)
theorem places58_paths : ∀ p ∈ places58, pathsOk p.stk :=
  (fun p h => by cases h)
theorem exc58_no : ∀ q ∈ exc58, ∀ i, ¬ Holds i q := by intro q hq; cases hq
def places64 : List Sx.Place := []
def lawPc64 : Pc := [((.eq (.var 31 0 65535) (.lit 3860)), true), ((.eq (.var 31 0 65535) (.lit 3859)), false), ((.eq (.var 31 0 65535) (.lit 3858)), false), ((.eq (.var 31 0 65535) (.lit 3857)), false), ((.lt (.var 31 0 65535) (.lit 3861)), true), ((.lt (.var 31 0 65535) (.lit 3857)), false), ((.lt (.var 31 0 65535) (.lit 3075)), false), ((.lt (.var 31 0 65535) (.lit 2816)), false), ((.lt (.var 31 0 65535) (.lit 832)), false)]
def exc64 : List Pc := []
theorem start64_yes : startYes Tryd.prog (tabGlob tabs) lawEv 1645504557321206042154969182557350504982735865633579863348608300 lawBody lawFn 3 100000 places64 exc64 (psV lawPs 0) (stTab tabs lawPc64) = true := by kernel_rfl
theorem places64_yes : ∀ p ∈ places64, placeYes Tryd.prog (tabGlob tabs) lawEv 1645504557321206042154969182557350504982735865633579863348608300 lawBody lawFn 3 100000 places64 exc64 p = true :=
  (fun p h => by cases h)
theorem places64_paths : ∀ p ∈ places64, pathsOk p.stk :=
  (fun p h => by cases h)
theorem exc64_no : ∀ q ∈ exc64, ∀ i, ¬ Holds i q := by intro q hq; cases hq
end
end Go.Proofs.YtffhbmkpcenkoaaDoor.Sx
