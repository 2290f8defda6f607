/- CsrKeeps: a part of its cases. -/
import Derived.Test.YtffhbmkpcenkoaaDoorUCsrKeeps
set_option linter.unusedVariables false
set_option linter.unusedSimpArgs false
namespace Go.Proofs.YtffhbmkpcenkoaaDoor.Sx
open Go
noncomputable section
set_option maxRecDepth 100000
def places3 : List Sx.Place := []
def lawPc3 : Pc := [((.lt (.var 31 0 65535) (.lit 260)), true), ((.lt (.var 31 0 65535) (.lit 257)), false), ((.lt (.var 31 0 65535) (.lit 320)), true), ((.lt (.var 31 0 65535) (.lit 832)), true)]
def exc3 : List Pc := []
theorem start3_yes : startYes Tryd.prog (tabGlob tabs) lawEv 1645504557321206042154969182557350504982735865633579863348608300 lawBody lawFn 3 100000 places3 exc3 (psV lawPs 0) (stTab tabs lawPc3) = true := by kernel_rfl
theorem places3_yes : ∀ p ∈ places3, placeYes Tryd.prog (tabGlob tabs) lawEv 1645504557321206042154969182557350504982735865633579863348608300 lawBody lawFn 3 100000 places3 exc3 p = true :=
  (fun p h => by cases h)
theorem places3_paths : ∀ p ∈ places3, pathsOk p.stk :=
  (fun p h => by cases h)
theorem exc3_no : ∀ q ∈ exc3, ∀ i, ¬ Holds i q := by intro q hq; cases hq
def places9 : List Sx.Place := []
def lawPc9 : Pc := [((.eq (.var 31 0 65535) (.lit 320)), true), ((.lt (.var 31 0 65535) (.lit 325)), true), ((.lt (.var 31 0 65535) (.lit 385)), true), ((.lt (.var 31 0 65535) (.lit 320)), false), ((.lt (.var 31 0 65535) (.lit 832)), true)]
def exc9 : List Pc := []
theorem start9_yes : startYes Tryd.prog (tabGlob tabs) lawEv 1645504557321206042154969182557350504982735865633579863348608300 lawBody lawFn 3 100000 places9 exc9 (psV lawPs 0) (stTab tabs lawPc9) = true := by kernel_rfl
theorem places9_yes : ∀ p ∈ places9, placeYes Tryd.prog (tabGlob tabs) lawEv 1645504557321206042154969182557350504982735865633579863348608300 lawBody lawFn 3 100000 places9 exc9 p = true :=
  (fun p h => by cases h)
theorem places9_paths : ∀ p ∈ places9, pathsOk p.stk :=
  (fun p h => by cases h)
theorem exc9_no : ∀ q ∈ exc9, ∀ i, ¬ Holds i q := by intro q hq; cases hq
def places15 : List Sx.Place := []
def lawPc15 : Pc := [((.lt (.var 31 0 65535) (.lit 384)), true), ((.lt (.var 31 0 65535) (.lit 325)), false), ((.lt (.var 31 0 65535) (.lit 385)), true), ((.lt (.var 31 0 65535) (.lit 320)), false), ((.lt (.var 31 0 65535) (.lit 832)), true)]
def exc15 : List Pc := []
theorem start15_yes : startYes Tryd.prog (tabGlob tabs) lawEv 1645504557321206042154969182557350504982735865633579863348608300 lawBody lawFn 3 100000 places15 exc15 (psV lawPs 0) (stTab tabs lawPc15) = true := by kernel_rfl
theorem places15_yes : ∀ p ∈ places15, placeYes Tryd.prog (tabGlob tabs) lawEv 1645504557321206042154969182557350504982735865633579863348608300 lawBody lawFn 3 100000 places15 exc15 p = true :=
  (fun p h => by cases h)
theorem places15_paths : ∀ p ∈ places15, pathsOk p.stk :=
  (fun p h => by cases h)
theorem exc15_no : ∀ q ∈ exc15, ∀ i, ¬ Holds i q := by intro q hq; cases hq
def places21 : List Sx.Place := []
def lawPc21 : Pc := [((.eq (.var 31 0 65535) (.lit 770)), true), ((.eq (.var 31 0 65535) (.lit 769)), false), ((.eq (.var 31 0 65535) (.lit 768)), false), ((.lt (.var 31 0 65535) (.lit 775)), true), ((.lt (.var 31 0 65535) (.lit 768)), false), ((.lt (.var 31 0 65535) (.lit 385)), false), ((.lt (.var 31 0 65535) (.lit 320)), false), ((.lt (.var 31 0 65535) (.lit 832)), true)]
def exc21 : List Pc := []
theorem start21_yes : startYes Tryd.prog (tabGlob tabs) lawEv 1645504557321206042154969182557350504982735865633579863348608300 lawBody lawFn 3 100000 places21 exc21 (psV lawPs 0) (stTab tabs lawPc21) = true := by kernel_rfl
theorem places21_yes : ∀ p ∈ places21, placeYes Tryd.prog (tabGlob tabs) lawEv 1645504557321206042154969182557350504982735865633579863348608300 lawBody lawFn 3 100000 places21 exc21 p = true :=
  (fun p h => by cases h)
theorem places21_paths : ∀ p ∈ places21, pathsOk p.stk :=
  (fun p h => by cases h)
theorem exc21_no : ∀ q ∈ exc21, ∀ i, ¬ Holds i q := by intro q hq; cases hq
def places27 : List Sx.Place := []
def lawPc27 : Pc := [((.lt (.var 31 0 65535) (.lit 775)), false), ((.lt (.var 31 0 65535) (.lit 768)), false), ((.lt (.var 31 0 65535) (.lit 385)), false), ((.lt (.var 31 0 65535) (.lit 320)), false), ((.lt (.var 31 0 65535) (.lit 832)), true)]
def exc27 : List Pc := []
theorem start27_yes : startYes Tryd.prog (tabGlob tabs) lawEv 1645504557321206042154969182557350504982735865633579863348608300 lawBody lawFn 3 100000 places27 exc27 (psV lawPs 0) (stTab tabs lawPc27) = true := by kernel_rfl
theorem places27_yes : ∀ p ∈ places27, placeYes Tryd.prog (tabGlob tabs) lawEv 1645504557321206042154969182557350504982735865633579863348608300 lawBody lawFn 3 100000 places27 exc27 p = true :=
  (fun p h => by cases h)
theorem places27_paths : ∀ p ∈ places27, pathsOk p.stk :=
  (fun p h => by cases h)
theorem exc27_no : ∀ q ∈ exc27, ∀ i, ¬ Holds i q := by intro q hq; cases hq
def lawPc33 : Pc := [((.eq (.var 31 0 65535) (.lit 836)), false), ((.eq (.var 31 0 65535) (.lit 835)), false), ((.eq (.var 31 0 65535) (.lit 834)), false), ((.eq (.var 31 0 65535) (.lit 833)), false), ((.eq (.var 31 0 65535) (.lit 832)), false), ((.lt (.var 31 0 65535) (.lit 837)), true), ((.lt (.var 31 0 65535) (.lit 929)), true), ((.lt (.var 31 0 65535) (.lit 2816)), true), ((.lt (.var 31 0 65535) (.lit 832)), false)]
theorem x33_no (i : Nat → Int) (hh : Holds i lawPc33) : False := by
  have h0 := hh _ _ (.head _)
  have h1 := hh _ _ (.tail _ (.head _))
  have h2 := hh _ _ (.tail _ (.tail _ (.head _)))
  have h3 := hh _ _ (.tail _ (.tail _ (.tail _ (.head _))))
  have h4 := hh _ _ (.tail _ (.tail _ (.tail _ (.tail _ (.head _)))))
  have h5 := hh _ _ (.tail _ (.tail _ (.tail _ (.tail _ (.tail _ (.head _))))))
  have h6 := hh _ _ (.tail _ (.tail _ (.tail _ (.tail _ (.tail _ (.tail _ (.head _)))))))
  have h7 := hh _ _ (.tail _ (.tail _ (.tail _ (.tail _ (.tail _ (.tail _ (.tail _ (.head _))))))))
  have h8 := hh _ _ (.tail _ (.tail _ (.tail _ (.tail _ (.tail _ (.tail _ (.tail _ (.tail _ (.head _)))))))))
  clear hh
  simp only [N.den, true_iff, Bool.false_eq_true, false_iff, bI_ne, ieq_iff, ilt_iff, Classical.not_not, ne_eq] at h0 h1 h2 h3 h4 h5 h6 h7 h8
  omega
def places39 : List Sx.Place := []
def lawPc39 : Pc := [((.eq (.var 32 0 255) (.lit 3)), false), ((.eq (.var 32 0 255) (.lit 2)), false), ((.eq (.var 32 0 255) (.lit 1)), false), ((.eq (.var 32 0 255) (.lit 0)), false), ((.eq (.var 31 0 65535) (.lit 928)), true), ((.lt (.var 31 0 65535) (.lit 928)), false), ((.lt (.var 31 0 65535) (.lit 837)), false), ((.lt (.var 31 0 65535) (.lit 929)), true), ((.lt (.var 31 0 65535) (.lit 2816)), true), ((.lt (.var 31 0 65535) (.lit 832)), false)]
def exc39 : List Pc := []
theorem start39_yes : startYes Tryd.prog (tabGlob tabs) lawEv 1645504557321206042154969182557350504982735865633579863348608300 lawBody lawFn 3 100000 places39 exc39 (psV lawPs 0) (stTab tabs lawPc39) = true := by kernel_rfl
theorem places39_yes : ∀ p ∈ places39, placeYes Tryd.prog (tabGlob tabs) lawEv 1645504557321206042154969182557350504982735865633579863348608300 lawBody lawFn 3 100000 places39 exc39 p = true :=
  (fun p h => by cases h)
theorem places39_paths : ∀ p ∈ places39, pathsOk p.stk :=
  (fun p h => by cases h)
theorem exc39_no : ∀ q ∈ exc39, ∀ i, ¬ Holds i q := by intro q hq; cases hq
def places45 : List Sx.Place := []
def lawPc45 : Pc := [((.eq (.var 31 0 65535) (.lit 947)), true), ((.eq (.var 31 0 65535) (.lit 946)), false), ((.eq (.var 31 0 65535) (.lit 945)), false), ((.eq (.var 31 0 65535) (.lit 944)), false), ((.lt (.var 31 0 65535) (.lit 952)), true), ((.lt (.var 31 0 65535) (.lit 944)), false), ((.lt (.var 31 0 65535) (.lit 929)), false), ((.lt (.var 31 0 65535) (.lit 2816)), true), ((.lt (.var 31 0 65535) (.lit 832)), false)]
def exc45 : List Pc := []
theorem start45_yes : startYes Tryd.prog (tabGlob tabs) lawEv 1645504557321206042154969182557350504982735865633579863348608300 lawBody lawFn 3 100000 places45 exc45 (psV lawPs 0) (stTab tabs lawPc45) = true := by kernel_rfl
theorem places45_yes : ∀ p ∈ places45, placeYes Tryd.prog (tabGlob tabs) lawEv 1645504557321206042154969182557350504982735865633579863348608300 lawBody lawFn 3 100000 places45 exc45 p = true :=
  (fun p h => by cases h)
theorem places45_paths : ∀ p ∈ places45, pathsOk p.stk :=
  (fun p h => by cases h)
theorem exc45_no : ∀ q ∈ exc45, ∀ i, ¬ Holds i q := by intro q hq; cases hq
def places51 : List Sx.Place := []
def lawPc51 : Pc := [((.lt (.var 31 0 65535) (.lit 952)), false), ((.lt (.var 31 0 65535) (.lit 944)), false), ((.lt (.var 31 0 65535) (.lit 929)), false), ((.lt (.var 31 0 65535) (.lit 2816)), true), ((.lt (.var 31 0 65535) (.lit 832)), false)]
def exc51 : List Pc := []
theorem start51_yes : startYes Tryd.prog (tabGlob tabs) lawEv 1645504557321206042154969182557350504982735865633579863348608300 lawBody lawFn 3 100000 places51 exc51 (psV lawPs 0) (stTab tabs lawPc51) = true := by kernel_rfl
theorem places51_yes : ∀ p ∈ places51, placeYes Tryd.prog (tabGlob tabs) lawEv 1645504557321206042154969182557350504982735865633579863348608300 lawBody lawFn 3 100000 places51 exc51 p = true :=
  (fun p h => by cases h)
theorem places51_paths : ∀ p ∈ places51, pathsOk p.stk :=
  (fun p h => by cases h)
theorem exc51_no : ∀ q ∈ exc51, ∀ i, ¬ Holds i q := by intro q hq; cases hq
def places57 : List Sx.Place := []
def lawPc57 : Pc := [((.eq (.var 31 0 65535) (.lit 3073)), true), ((.eq (.var 31 0 65535) (.lit 3072)), false), ((.lt (.var 31 0 65535) (.lit 3072)), false), ((.lt (.var 31 0 65535) (.lit 2819)), false), ((.lt (.var 31 0 65535) (.lit 3075)), true), ((.lt (.var 31 0 65535) (.lit 2816)), false), ((.lt (.var 31 0 65535) (.lit 832)), false)]
def exc57 : List Pc := []
theorem start57_yes : startYes Tryd.prog (tabGlob tabs) lawEv 1645504557321206042154969182557350504982735865633579863348608300 lawBody lawFn 3 100000 places57 exc57 (psV lawPs 0) (stTab tabs lawPc57) = true := by kernel_rfl
theorem places57_yes : ∀ p ∈ places57, placeYes Tryd.prog (tabGlob tabs) lawEv 1645504557321206042154969182557350504982735865633579863348608300 lawBody lawFn 3 100000 places57 exc57 p = true :=
  (fun p h => by cases h)
theorem places57_paths : ∀ p ∈ places57, pathsOk p.stk :=
  (fun p h => by cases h)
theorem exc57_no : ∀ q ∈ exc57, ∀ i, ¬ Holds i q := by intro q hq; cases hq
def places63 : List Sx.Place := []
def lawPc63 : Pc := [((.eq (.var 31 0 65535) (.lit 3859)), true), ((.eq (.var 31 0 65535) (.lit 3858)), false), ((.eq (.var 31 0 65535) (.lit 3857)), false), ((.lt (.var 31 0 65535) (.lit 3861)), true), ((.lt (.var 31 0 65535) (.lit 3857)), false), ((.lt (.var 31 0 65535) (.lit 3075)), false), ((.lt (.var 31 0 65535) (.lit 2816)), false), ((.lt (.var 31 0 65535) (.lit 832)), false)]
def exc63 : List Pc := []
theorem start63_yes : startYes Tryd.prog (tabGlob tabs) lawEv 1645504557321206042154969182557350504982735865633579863348608300 lawBody lawFn 3 100000 places63 exc63 (psV lawPs 0) (stTab tabs lawPc63) = true := by kernel_rfl
theorem places63_yes : ∀ p ∈ places63, placeYes Tryd.prog (tabGlob tabs) lawEv 1645504557321206042154969182557350504982735865633579863348608300 lawBody lawFn 3 100000 places63 exc63 p = true :=
  (fun p h => by cases h)
theorem places63_paths : ∀ p ∈ places63, pathsOk p.stk :=
  (fun p h => by cases h)
theorem exc63_no : ∀ q ∈ exc63, ∀ i, ¬ Holds i q := by intro q hq; cases hq
end
end Go.Proofs.YtffhbmkpcenkoaaDoor.Sx
