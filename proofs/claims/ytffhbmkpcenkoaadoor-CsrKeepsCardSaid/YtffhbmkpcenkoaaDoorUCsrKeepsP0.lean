/- CsrKeeps: a part of its cases. -/
import Derived.Test.YtffhbmkpcenkoaaDoorUCsrKeeps
set_option linter.unusedVariables false
set_option linter.unusedSimpArgs false
namespace Go.Proofs.YtffhbmkpcenkoaaDoor.Sx
open Go
noncomputable section
set_option maxRecDepth 100000
def places0 : List Sx.Place := []
def lawPc0 : Pc := [((.lt (.var 31 0 65535) (.lit 256)), true), ((.lt (.var 31 0 65535) (.lit 257)), true), ((.lt (.var 31 0 65535) (.lit 320)), true), ((.lt (.var 31 0 65535) (.lit 832)), true)]
def exc0 : List Pc := []
theorem start0_yes : startYes Tryd.prog (tabGlob tabs) lawEv 1645504557321206042154969182557350504982735865633579863348608300 lawBody lawFn 3 100000 places0 exc0 (psV lawPs 0) (stTab tabs lawPc0) = true := by kernel_rfl
theorem places0_yes : ∀ p ∈ places0, placeYes Tryd.prog (tabGlob tabs) lawEv 1645504557321206042154969182557350504982735865633579863348608300 lawBody lawFn 3 100000 places0 exc0 p = true :=
  (fun p h => by cases h)
theorem places0_paths : ∀ p ∈ places0, pathsOk p.stk :=
  (fun p h => by cases h)
theorem exc0_no : ∀ q ∈ exc0, ∀ i, ¬ Holds i q := by intro q hq; cases hq
def places6 : List Sx.Place := []
def lawPc6 : Pc := [((.eq (.var 31 0 65535) (.lit 262)), true), ((.eq (.var 31 0 65535) (.lit 261)), false), ((.eq (.var 31 0 65535) (.lit 260)), false), ((.lt (.var 31 0 65535) (.lit 263)), true), ((.lt (.var 31 0 65535) (.lit 260)), false), ((.lt (.var 31 0 65535) (.lit 257)), false), ((.lt (.var 31 0 65535) (.lit 320)), true), ((.lt (.var 31 0 65535) (.lit 832)), true)]
def exc6 : List Pc := []
theorem start6_yes : startYes Tryd.prog (tabGlob tabs) lawEv 1645504557321206042154969182557350504982735865633579863348608300 lawBody lawFn 3 100000 places6 exc6 (psV lawPs 0) (stTab tabs lawPc6) = true := by kernel_rfl
theorem places6_yes : ∀ p ∈ places6, placeYes Tryd.prog (tabGlob tabs) lawEv 1645504557321206042154969182557350504982735865633579863348608300 lawBody lawFn 3 100000 places6 exc6 p = true :=
  (fun p h => by cases h)
theorem places6_paths : ∀ p ∈ places6, pathsOk p.stk :=
  (fun p h => by cases h)
theorem exc6_no : ∀ q ∈ exc6, ∀ i, ¬ Holds i q := by intro q hq; cases hq
def places12 : List Sx.Place := []
def lawPc12 : Pc := [((.eq (.var 31 0 65535) (.lit 323)), true), ((.eq (.var 31 0 65535) (.lit 322)), false), ((.eq (.var 31 0 65535) (.lit 321)), false), ((.eq (.var 31 0 65535) (.lit 320)), false), ((.lt (.var 31 0 65535) (.lit 325)), true), ((.lt (.var 31 0 65535) (.lit 385)), true), ((.lt (.var 31 0 65535) (.lit 320)), false), ((.lt (.var 31 0 65535) (.lit 832)), true)]
def exc12 : List Pc := []
theorem start12_yes : startYes Tryd.prog (tabGlob tabs) lawEv 1645504557321206042154969182557350504982735865633579863348608300 lawBody lawFn 3 100000 places12 exc12 (psV lawPs 0) (stTab tabs lawPc12) = true := by kernel_rfl
theorem places12_yes : ∀ p ∈ places12, placeYes Tryd.prog (tabGlob tabs) lawEv 1645504557321206042154969182557350504982735865633579863348608300 lawBody lawFn 3 100000 places12 exc12 p = true :=
  (fun p h => by cases h)
theorem places12_paths : ∀ p ∈ places12, pathsOk p.stk :=
  (fun p h => by cases h)
theorem exc12_no : ∀ q ∈ exc12, ∀ i, ¬ Holds i q := by intro q hq; cases hq
def places18 : List Sx.Place := []
def lawPc18 : Pc := [((.lt (.var 31 0 65535) (.lit 768)), true), ((.lt (.var 31 0 65535) (.lit 385)), false), ((.lt (.var 31 0 65535) (.lit 320)), false), ((.lt (.var 31 0 65535) (.lit 832)), true)]
def exc18 : List Pc := []
theorem start18_yes : startYes Tryd.prog (tabGlob tabs) lawEv 1645504557321206042154969182557350504982735865633579863348608300 lawBody lawFn 3 100000 places18 exc18 (psV lawPs 0) (stTab tabs lawPc18) = true := by kernel_rfl
theorem places18_yes : ∀ p ∈ places18, placeYes Tryd.prog (tabGlob tabs) lawEv 1645504557321206042154969182557350504982735865633579863348608300 lawBody lawFn 3 100000 places18 exc18 p = true :=
  (fun p h => by cases h)
theorem places18_paths : ∀ p ∈ places18, pathsOk p.stk :=
  (fun p h => by cases h)
theorem exc18_no : ∀ q ∈ exc18, ∀ i, ¬ Holds i q := by intro q hq; cases hq
def places24 : List Sx.Place := []
def lawPc24 : Pc := [((.eq (.var 31 0 65535) (.lit 773)), true), ((.eq (.var 31 0 65535) (.lit 772)), false), ((.eq (.var 31 0 65535) (.lit 771)), false), ((.eq (.var 31 0 65535) (.lit 770)), false), ((.eq (.var 31 0 65535) (.lit 769)), false), ((.eq (.var 31 0 65535) (.lit 768)), false), ((.lt (.var 31 0 65535) (.lit 775)), true), ((.lt (.var 31 0 65535) (.lit 768)), false), ((.lt (.var 31 0 65535) (.lit 385)), false), ((.lt (.var 31 0 65535) (.lit 320)), false), ((.lt (.var 31 0 65535) (.lit 832)), true)]
def exc24 : List Pc := []
theorem start24_yes : startYes Tryd.prog (tabGlob tabs) lawEv 1645504557321206042154969182557350504982735865633579863348608300 lawBody lawFn 3 100000 places24 exc24 (psV lawPs 0) (stTab tabs lawPc24) = true := by kernel_rfl
theorem places24_yes : ∀ p ∈ places24, placeYes Tryd.prog (tabGlob tabs) lawEv 1645504557321206042154969182557350504982735865633579863348608300 lawBody lawFn 3 100000 places24 exc24 p = true :=
  (fun p h => by cases h)
theorem places24_paths : ∀ p ∈ places24, pathsOk p.stk :=
  (fun p h => by cases h)
theorem exc24_no : ∀ q ∈ exc24, ∀ i, ¬ Holds i q := by intro q hq; cases hq
def places30 : List Sx.Place := []
def lawPc30 : Pc := [((.eq (.var 31 0 65535) (.lit 834)), true), ((.eq (.var 31 0 65535) (.lit 833)), false), ((.eq (.var 31 0 65535) (.lit 832)), false), ((.lt (.var 31 0 65535) (.lit 837)), true), ((.lt (.var 31 0 65535) (.lit 929)), true), ((.lt (.var 31 0 65535) (.lit 2816)), true), ((.lt (.var 31 0 65535) (.lit 832)), false)]
def exc30 : List Pc := []
theorem start30_yes : startYes Tryd.prog (tabGlob tabs) lawEv 1645504557321206042154969182557350504982735865633579863348608300 lawBody lawFn 3 100000 places30 exc30 (psV lawPs 0) (stTab tabs lawPc30) = true := by kernel_rfl
theorem places30_yes : ∀ p ∈ places30, placeYes Tryd.prog (tabGlob tabs) lawEv 1645504557321206042154969182557350504982735865633579863348608300 lawBody lawFn 3 100000 places30 exc30 p = true :=
  (fun p h => by cases h)
theorem places30_paths : ∀ p ∈ places30, pathsOk p.stk :=
  (fun p h => by cases h)
theorem exc30_no : ∀ q ∈ exc30, ∀ i, ¬ Holds i q := by intro q hq; cases hq
def places36 : List Sx.Place := []
def lawPc36 : Pc := [((.eq (.var 32 0 255) (.lit 1)), true), ((.eq (.var 32 0 255) (.lit 0)), false), ((.eq (.var 31 0 65535) (.lit 928)), true), ((.lt (.var 31 0 65535) (.lit 928)), false), ((.lt (.var 31 0 65535) (.lit 837)), false), ((.lt (.var 31 0 65535) (.lit 929)), true), ((.lt (.var 31 0 65535) (.lit 2816)), true), ((.lt (.var 31 0 65535) (.lit 832)), false)]
def exc36 : List Pc := []
theorem start36_yes : startYes Tryd.prog (tabGlob tabs) lawEv 1645504557321206042154969182557350504982735865633579863348608300 lawBody lawFn 3 100000 places36 exc36 (psV lawPs 0) (stTab tabs lawPc36) = true := by kernel_rfl
theorem places36_yes : ∀ p ∈ places36, placeYes Tryd.prog (tabGlob tabs) lawEv 1645504557321206042154969182557350504982735865633579863348608300 lawBody lawFn 3 100000 places36 exc36 p = true :=
  (fun p h => by cases h)
theorem places36_paths : ∀ p ∈ places36, pathsOk p.stk :=
  (fun p h => by cases h)
theorem exc36_no : ∀ q ∈ exc36, ∀ i, ¬ Holds i q := by intro q hq; cases hq
def places42 : List Sx.Place := []
def lawPc42 : Pc := [((.eq (.var 31 0 65535) (.lit 944)), true), ((.lt (.var 31 0 65535) (.lit 952)), true), ((.lt (.var 31 0 65535) (.lit 944)), false), ((.lt (.var 31 0 65535) (.lit 929)), false), ((.lt (.var 31 0 65535) (.lit 2816)), true), ((.lt (.var 31 0 65535) (.lit 832)), false)]
def exc42 : List Pc := []
theorem start42_yes : startYes Tryd.prog (tabGlob tabs) lawEv 1645504557321206042154969182557350504982735865633579863348608300 lawBody lawFn 3 100000 places42 exc42 (psV lawPs 0) (stTab tabs lawPc42) = true := by kernel_rfl
theorem places42_yes : ∀ p ∈ places42, placeYes Tryd.prog (tabGlob tabs) lawEv 1645504557321206042154969182557350504982735865633579863348608300 lawBody lawFn 3 100000 places42 exc42 p = true :=
  (fun p h => by cases h)
theorem places42_paths : ∀ p ∈ places42, pathsOk p.stk :=
  (fun p h => by cases h)
theorem exc42_no : ∀ q ∈ exc42, ∀ i, ¬ Holds i q := by intro q hq; cases hq
def places48 : List Sx.Place := []
def lawPc48 : Pc := [((.eq (.var 31 0 65535) (.lit 950)), true), ((.eq (.var 31 0 65535) (.lit 949)), false), ((.eq (.var 31 0 65535) (.lit 948)), false), ((.eq (.var 31 0 65535) (.lit 947)), false), ((.eq (.var 31 0 65535) (.lit 946)), false), ((.eq (.var 31 0 65535) (.lit 945)), false), ((.eq (.var 31 0 65535) (.lit 944)), false), ((.lt (.var 31 0 65535) (.lit 952)), true), ((.lt (.var 31 0 65535) (.lit 944)), false), ((.lt (.var 31 0 65535) (.lit 929)), false), ((.lt (.var 31 0 65535) (.lit 2816)), true), ((.lt (.var 31 0 65535) (.lit 832)), false)]
def exc48 : List Pc := []
theorem start48_yes : startYes Tryd.prog (tabGlob tabs) lawEv 1645504557321206042154969182557350504982735865633579863348608300 lawBody lawFn 3 100000 places48 exc48 (psV lawPs 0) (stTab tabs lawPc48) = true := by kernel_rfl
theorem places48_yes : ∀ p ∈ places48, placeYes Tryd.prog (tabGlob tabs) lawEv 1645504557321206042154969182557350504982735865633579863348608300 lawBody lawFn 3 100000 places48 exc48 p = true :=
  (fun p h => by cases h)
theorem places48_paths : ∀ p ∈ places48, pathsOk p.stk :=
  (fun p h => by cases h)
theorem exc48_no : ∀ q ∈ exc48, ∀ i, ¬ Holds i q := by intro q hq; cases hq
def places54 : List Sx.Place := []
def lawPc54 : Pc := [((.eq (.var 31 0 65535) (.lit 2818)), false), ((.eq (.var 31 0 65535) (.lit 2816)), false), ((.lt (.var 31 0 65535) (.lit 2819)), true), ((.lt (.var 31 0 65535) (.lit 3075)), true), ((.lt (.var 31 0 65535) (.lit 2816)), false), ((.lt (.var 31 0 65535) (.lit 832)), false)]
def exc54 : List Pc := []
theorem start54_yes : startYes Tryd.prog (tabGlob tabs) lawEv 1645504557321206042154969182557350504982735865633579863348608300 lawBody lawFn 3 100000 places54 exc54 (psV lawPs 0) (stTab tabs lawPc54) = true := by kernel_rfl
theorem places54_yes : ∀ p ∈ places54, placeYes Tryd.prog (tabGlob tabs) lawEv 1645504557321206042154969182557350504982735865633579863348608300 lawBody lawFn 3 100000 places54 exc54 p = true :=
  (fun p h => by cases h)
theorem places54_paths : ∀ p ∈ places54, pathsOk p.stk :=
  (fun p h => by cases h)
theorem exc54_no : ∀ q ∈ exc54, ∀ i, ¬ Holds i q := by intro q hq; cases hq
def places60 : List Sx.Place := []
def lawPc60 : Pc := [((.lt (.var 31 0 65535) (.lit 3857)), true), ((.lt (.var 31 0 65535) (.lit 3075)), false), ((.lt (.var 31 0 65535) (.lit 2816)), false), ((.lt (.var 31 0 65535) (.lit 832)), false)]
def exc60 : List Pc := []
theorem start60_yes : startYes Tryd.prog (tabGlob tabs) lawEv 1645504557321206042154969182557350504982735865633579863348608300 lawBody lawFn 3 100000 places60 exc60 (psV lawPs 0) (stTab tabs lawPc60) = true := by kernel_rfl
theorem places60_yes : ∀ p ∈ places60, placeYes Tryd.prog (tabGlob tabs) lawEv 1645504557321206042154969182557350504982735865633579863348608300 lawBody lawFn 3 100000 places60 exc60 p = true :=
  (fun p h => by cases h)
theorem places60_paths : ∀ p ∈ places60, pathsOk p.stk :=
  (fun p h => by cases h)
theorem exc60_no : ∀ q ∈ exc60, ∀ i, ¬ Holds i q := by intro q hq; cases hq
def places66 : List Sx.Place := []
def lawPc66 : Pc := [((.lt (.var 31 0 65535) (.lit 3861)), false), ((.lt (.var 31 0 65535) (.lit 3857)), false), ((.lt (.var 31 0 65535) (.lit 3075)), false), ((.lt (.var 31 0 65535) (.lit 2816)), false), ((.lt (.var 31 0 65535) (.lit 832)), false)]
def exc66 : List Pc := []
theorem start66_yes : startYes Tryd.prog (tabGlob tabs) lawEv 1645504557321206042154969182557350504982735865633579863348608300 lawBody lawFn 3 100000 places66 exc66 (psV lawPs 0) (stTab tabs lawPc66) = true := by kernel_rfl
theorem places66_yes : ∀ p ∈ places66, placeYes Tryd.prog (tabGlob tabs) lawEv 1645504557321206042154969182557350504982735865633579863348608300 lawBody lawFn 3 100000 places66 exc66 p = true :=
  (fun p h => by cases h)
theorem places66_paths : ∀ p ∈ places66, pathsOk p.stk :=
  (fun p h => by cases h)
theorem exc66_no : ∀ q ∈ exc66, ∀ i, ¬ Holds i q := by intro q hq; cases hq
end
end Go.Proofs.YtffhbmkpcenkoaaDoor.Sx
