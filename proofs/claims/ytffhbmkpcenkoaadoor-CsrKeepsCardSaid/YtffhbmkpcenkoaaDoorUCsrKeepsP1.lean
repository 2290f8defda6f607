/- CsrKeeps: a part of its cases. -/
import Derived.Test.YtffhbmkpcenkoaaDoorUCsrKeeps
set_option linter.unusedVariables false
set_option linter.unusedSimpArgs false
namespace Go.Proofs.YtffhbmkpcenkoaaDoor.Sx
open Go
noncomputable section
set_option maxRecDepth 100000
def places1 : List Sx.Place := []
def lawPc1 : Pc := [((.eq (.var 31 0 65535) (.lit 256)), true), ((.lt (.var 31 0 65535) (.lit 256)), false), ((.lt (.var 31 0 65535) (.lit 257)), true), ((.lt (.var 31 0 65535) (.lit 320)), true), ((.lt (.var 31 0 65535) (.lit 832)), true)]
def exc1 : List Pc := []
theorem start1_yes : startYes Tryd.prog (tabGlob tabs) lawEv 1645504557321206042154969182557350504982735865633579863348608300 lawBody lawFn 3 100000 places1 exc1 (psV lawPs 0) (stTab tabs lawPc1) = true := by kernel_rfl
theorem places1_yes : ∀ p ∈ places1, placeYes Tryd.prog (tabGlob tabs) lawEv 1645504557321206042154969182557350504982735865633579863348608300 lawBody lawFn 3 100000 places1 exc1 p = true :=
  (fun p h => by cases h)
theorem places1_paths : ∀ p ∈ places1, pathsOk p.stk :=
  (fun p h => by cases h)
theorem exc1_no : ∀ q ∈ exc1, ∀ i, ¬ Holds i q := by intro q hq; cases hq
def lawPc7 : Pc := [((.eq (.var 31 0 65535) (.lit 262)), false), ((.eq (.var 31 0 65535) (.lit 261)), false), ((.eq (.var 31 0 65535) (.lit 260)), false), ((.lt (.var 31 0 65535) (.lit 263)), true), ((.lt (.var 31 0 65535) (.lit 260)), false), ((.lt (.var 31 0 65535) (.lit 257)), false), ((.lt (.var 31 0 65535) (.lit 320)), true), ((.lt (.var 31 0 65535) (.lit 832)), true)]
theorem x7_no (i : Nat → Int) (hh : Holds i lawPc7) : False := by
  have h0 := hh _ _ (.head _)
  have h1 := hh _ _ (.tail _ (.head _))
  have h2 := hh _ _ (.tail _ (.tail _ (.head _)))
  have h3 := hh _ _ (.tail _ (.tail _ (.tail _ (.head _))))
  have h4 := hh _ _ (.tail _ (.tail _ (.tail _ (.tail _ (.head _)))))
  have h5 := hh _ _ (.tail _ (.tail _ (.tail _ (.tail _ (.tail _ (.head _))))))
  have h6 := hh _ _ (.tail _ (.tail _ (.tail _ (.tail _ (.tail _ (.tail _ (.head _)))))))
  have h7 := hh _ _ (.tail _ (.tail _ (.tail _ (.tail _ (.tail _ (.tail _ (.tail _ (.head _))))))))
  clear hh
  simp only [N.den, true_iff, Bool.false_eq_true, false_iff, bI_ne, ieq_iff, ilt_iff, Classical.not_not, ne_eq] at h0 h1 h2 h3 h4 h5 h6 h7
  omega
def places13 : List Sx.Place := []
def lawPc13 : Pc := [((.eq (.var 31 0 65535) (.lit 324)), true), ((.eq (.var 31 0 65535) (.lit 323)), false), ((.eq (.var 31 0 65535) (.lit 322)), false), ((.eq (.var 31 0 65535) (.lit 321)), false), ((.eq (.var 31 0 65535) (.lit 320)), false), ((.lt (.var 31 0 65535) (.lit 325)), true), ((.lt (.var 31 0 65535) (.lit 385)), true), ((.lt (.var 31 0 65535) (.lit 320)), false), ((.lt (.var 31 0 65535) (.lit 832)), true)]
def exc13 : List Pc := []
theorem start13_yes : startYes Tryd.prog (tabGlob tabs) lawEv 1645504557321206042154969182557350504982735865633579863348608300 lawBody lawFn 3 100000 places13 exc13 (psV lawPs 0) (stTab tabs lawPc13) = true := by kernel_rfl
theorem places13_yes : ∀ p ∈ places13, placeYes Tryd.prog (tabGlob tabs) lawEv 1645504557321206042154969182557350504982735865633579863348608300 lawBody lawFn 3 100000 places13 exc13 p = true :=
  (fun p h => by cases h)
theorem places13_paths : ∀ p ∈ places13, pathsOk p.stk :=
  (fun p h => by cases h)
theorem exc13_no : ∀ q ∈ exc13, ∀ i, ¬ Holds i q := by intro q hq; cases hq
def places19 : List Sx.Place := []
def lawPc19 : Pc := [((.eq (.var 31 0 65535) (.lit 768)), true), ((.lt (.var 31 0 65535) (.lit 775)), true), ((.lt (.var 31 0 65535) (.lit 768)), false), ((.lt (.var 31 0 65535) (.lit 385)), false), ((.lt (.var 31 0 65535) (.lit 320)), false), ((.lt (.var 31 0 65535) (.lit 832)), true)]
def exc19 : List Pc := []
theorem start19_yes : startYes Tryd.prog (tabGlob tabs) lawEv 1645504557321206042154969182557350504982735865633579863348608300 lawBody lawFn 3 100000 places19 exc19 (psV lawPs 0) (stTab tabs lawPc19) = true := by kernel_rfl
theorem places19_yes : ∀ p ∈ places19, placeYes Tryd.prog (tabGlob tabs) lawEv 1645504557321206042154969182557350504982735865633579863348608300 lawBody lawFn 3 100000 places19 exc19 p = true :=
  (fun p h => by cases h)
theorem places19_paths : ∀ p ∈ places19, pathsOk p.stk :=
  (fun p h => by cases h)
theorem exc19_no : ∀ q ∈ exc19, ∀ i, ¬ Holds i q := by intro q hq; cases hq
def places25 : List Sx.Place := []
def lawPc25 : Pc := [((.eq (.var 31 0 65535) (.lit 774)), true), ((.eq (.var 31 0 65535) (.lit 773)), false), ((.eq (.var 31 0 65535) (.lit 772)), false), ((.eq (.var 31 0 65535) (.lit 771)), false), ((.eq (.var 31 0 65535) (.lit 770)), false), ((.eq (.var 31 0 65535) (.lit 769)), false), ((.eq (.var 31 0 65535) (.lit 768)), false), ((.lt (.var 31 0 65535) (.lit 775)), true), ((.lt (.var 31 0 65535) (.lit 768)), false), ((.lt (.var 31 0 65535) (.lit 385)), false), ((.lt (.var 31 0 65535) (.lit 320)), false), ((.lt (.var 31 0 65535) (.lit 832)), true)]
def exc25 : List Pc := []
theorem start25_yes : startYes Tryd.prog (tabGlob tabs) lawEv 1645504557321206042154969182557350504982735865633579863348608300 lawBody lawFn 3 100000 places25 exc25 (psV lawPs 0) (stTab tabs lawPc25) = true := by kernel_rfl
theorem places25_yes : ∀ p ∈ places25, placeYes Tryd.prog (tabGlob tabs) lawEv 1645504557321206042154969182557350504982735865633579863348608300 lawBody lawFn 3 100000 places25 exc25 p = true :=
  (fun p h => by cases h)
theorem places25_paths : ∀ p ∈ places25, pathsOk p.stk :=
  (fun p h => by cases h)
theorem exc25_no : ∀ q ∈ exc25, ∀ i, ¬ Holds i q := by intro q hq; cases hq
def places31 : List Sx.Place := []
def lawPc31 : Pc := [((.eq (.var 31 0 65535) (.lit 835)), true), ((.eq (.var 31 0 65535) (.lit 834)), false), ((.eq (.var 31 0 65535) (.lit 833)), false), ((.eq (.var 31 0 65535) (.lit 832)), false), ((.lt (.var 31 0 65535) (.lit 837)), true), ((.lt (.var 31 0 65535) (.lit 929)), true), ((.lt (.var 31 0 65535) (.lit 2816)), true), ((.lt (.var 31 0 65535) (.lit 832)), false)]
def exc31 : List Pc := []
theorem start31_yes : startYes Tryd.prog (tabGlob tabs) lawEv 1645504557321206042154969182557350504982735865633579863348608300 lawBody lawFn 3 100000 places31 exc31 (psV lawPs 0) (stTab tabs lawPc31) = true := by kernel_rfl
theorem places31_yes : ∀ p ∈ places31, placeYes Tryd.prog (tabGlob tabs) lawEv 1645504557321206042154969182557350504982735865633579863348608300 lawBody lawFn 3 100000 places31 exc31 p = true :=
  (fun p h => by cases h)
theorem places31_paths : ∀ p ∈ places31, pathsOk p.stk :=
  (fun p h => by cases h)
theorem exc31_no : ∀ q ∈ exc31, ∀ i, ¬ Holds i q := by intro q hq; cases hq
def places37 : List Sx.Place := []
def lawPc37 : Pc := [((.eq (.var 32 0 255) (.lit 2)), true), ((.eq (.var 32 0 255) (.lit 1)), false), ((.eq (.var 32 0 255) (.lit 0)), false), ((.eq (.var 31 0 65535) (.lit 928)), true), ((.lt (.var 31 0 65535) (.lit 928)), false), ((.lt (.var 31 0 65535) (.lit 837)), false), ((.lt (.var 31 0 65535) (.lit 929)), true), ((.lt (.var 31 0 65535) (.lit 2816)), true), ((.lt (.var 31 0 65535) (.lit 832)), false)]
def exc37 : List Pc := []
theorem start37_yes : startYes Tryd.prog (tabGlob tabs) lawEv 1645504557321206042154969182557350504982735865633579863348608300 lawBody lawFn 3 100000 places37 exc37 (psV lawPs 0) (stTab tabs lawPc37) = true := by kernel_rfl
theorem places37_yes : ∀ p ∈ places37, placeYes Tryd.prog (tabGlob tabs) lawEv 1645504557321206042154969182557350504982735865633579863348608300 lawBody lawFn 3 100000 places37 exc37 p = true :=
  (fun p h => by cases h)
theorem places37_paths : ∀ p ∈ places37, pathsOk p.stk :=
  (fun p h => by cases h)
theorem exc37_no : ∀ q ∈ exc37, ∀ i, ¬ Holds i q := by intro q hq; cases hq
def places43 : List Sx.Place := []
def lawPc43 : Pc := [((.eq (.var 31 0 65535) (.lit 945)), true), ((.eq (.var 31 0 65535) (.lit 944)), false), ((.lt (.var 31 0 65535) (.lit 952)), true), ((.lt (.var 31 0 65535) (.lit 944)), false), ((.lt (.var 31 0 65535) (.lit 929)), false), ((.lt (.var 31 0 65535) (.lit 2816)), true), ((.lt (.var 31 0 65535) (.lit 832)), false)]
def exc43 : List Pc := []
theorem start43_yes : startYes Tryd.prog (tabGlob tabs) lawEv 1645504557321206042154969182557350504982735865633579863348608300 lawBody lawFn 3 100000 places43 exc43 (psV lawPs 0) (stTab tabs lawPc43) = true := by kernel_rfl
theorem places43_yes : ∀ p ∈ places43, placeYes Tryd.prog (tabGlob tabs) lawEv 1645504557321206042154969182557350504982735865633579863348608300 lawBody lawFn 3 100000 places43 exc43 p = true :=
  (fun p h => by cases h)
theorem places43_paths : ∀ p ∈ places43, pathsOk p.stk :=
  (fun p h => by cases h)
theorem exc43_no : ∀ q ∈ exc43, ∀ i, ¬ Holds i q := by intro q hq; cases hq
def places49 : List Sx.Place := []
def lawPc49 : Pc := [((.eq (.var 31 0 65535) (.lit 951)), true), ((.eq (.var 31 0 65535) (.lit 950)), false), ((.eq (.var 31 0 65535) (.lit 949)), false), ((.eq (.var 31 0 65535) (.lit 948)), false), ((.eq (.var 31 0 65535) (.lit 947)), false), ((.eq (.var 31 0 65535) (.lit 946)), false), ((.eq (.var 31 0 65535) (.lit 945)), false), ((.eq (.var 31 0 65535) (.lit 944)), false), ((.lt (.var 31 0 65535) (.lit 952)), true), ((.lt (.var 31 0 65535) (.lit 944)), false), ((.lt (.var 31 0 65535) (.lit 929)), false), ((.lt (.var 31 0 65535) (.lit 2816)), true), ((.lt (.var 31 0 65535) (.lit 832)), false)]
def exc49 : List Pc := []
theorem start49_yes : startYes Tryd.prog (tabGlob tabs) lawEv 1645504557321206042154969182557350504982735865633579863348608300 lawBody lawFn 3 100000 places49 exc49 (psV lawPs 0) (stTab tabs lawPc49) = true := by kernel_rfl
theorem places49_yes : ∀ p ∈ places49, placeYes Tryd.prog (tabGlob tabs) lawEv 1645504557321206042154969182557350504982735865633579863348608300 lawBody lawFn 3 100000 places49 exc49 p = true :=
  (fun p h => by cases h)
theorem places49_paths : ∀ p ∈ places49, pathsOk p.stk :=
  (fun p h => by cases h)
theorem exc49_no : ∀ q ∈ exc49, ∀ i, ¬ Holds i q := by intro q hq; cases hq
def places55 : List Sx.Place := []
def lawPc55 : Pc := [((.lt (.var 31 0 65535) (.lit 3072)), true), ((.lt (.var 31 0 65535) (.lit 2819)), false), ((.lt (.var 31 0 65535) (.lit 3075)), true), ((.lt (.var 31 0 65535) (.lit 2816)), false), ((.lt (.var 31 0 65535) (.lit 832)), false)]
def exc55 : List Pc := []
theorem start55_yes : startYes Tryd.prog (tabGlob tabs) lawEv 1645504557321206042154969182557350504982735865633579863348608300 lawBody lawFn 3 100000 places55 exc55 (psV lawPs 0) (stTab tabs lawPc55) = true := by kernel_rfl
theorem places55_yes : ∀ p ∈ places55, placeYes Tryd.prog (tabGlob tabs) lawEv 1645504557321206042154969182557350504982735865633579863348608300 lawBody lawFn 3 100000 places55 exc55 p = true :=
  (fun p h => by cases h)
theorem places55_paths : ∀ p ∈ places55, pathsOk p.stk :=
  (fun p h => by cases h)
theorem exc55_no : ∀ q ∈ exc55, ∀ i, ¬ Holds i q := by intro q hq; cases hq
def places61 : List Sx.Place := []
def lawPc61 : Pc := [((.eq (.var 31 0 65535) (.lit 3857)), true), ((.lt (.var 31 0 65535) (.lit 3861)), true), ((.lt (.var 31 0 65535) (.lit 3857)), false), ((.lt (.var 31 0 65535) (.lit 3075)), false), ((.lt (.var 31 0 65535) (.lit 2816)), false), ((.lt (.var 31 0 65535) (.lit 832)), false)]
def exc61 : List Pc := []
theorem start61_yes : startYes Tryd.prog (tabGlob tabs) lawEv 1645504557321206042154969182557350504982735865633579863348608300 lawBody lawFn 3 100000 places61 exc61 (psV lawPs 0) (stTab tabs lawPc61) = true := by kernel_rfl
theorem places61_yes : ∀ p ∈ places61, placeYes Tryd.prog (tabGlob tabs) lawEv 1645504557321206042154969182557350504982735865633579863348608300 lawBody lawFn 3 100000 places61 exc61 p = true :=
  (fun p h => by cases h)
theorem places61_paths : ∀ p ∈ places61, pathsOk p.stk :=
  (fun p h => by cases h)
theorem exc61_no : ∀ q ∈ exc61, ∀ i, ¬ Holds i q := by intro q hq; cases hq
end
end Go.Proofs.YtffhbmkpcenkoaaDoor.Sx
