/- CsrKeeps: a part of its cases. -/
import Derived.Test.YtffhbmkpcenkoaaDoorUCsrKeeps
set_option linter.unusedVariables false
set_option linter.unusedSimpArgs false
namespace Go.Proofs.YtffhbmkpcenkoaaDoor.Sx
open Go
noncomputable section
set_option maxRecDepth 100000
def lawPc2 : Pc := [((.eq (.var 31 0 65535) (.lit 256)), false), ((.lt (.var 31 0 65535) (.lit 256)), false), ((.lt (.var 31 0 65535) (.lit 257)), true), ((.lt (.var 31 0 65535) (.lit 320)), true), ((.lt (.var 31 0 65535) (.lit 832)), true)]
theorem x2_no (i : Nat → Int) (hh : Holds i lawPc2) : False := by
  have h0 := hh _ _ (.head _)
  have h1 := hh _ _ (.tail _ (.head _))
  have h2 := hh _ _ (.tail _ (.tail _ (.head _)))
  have h3 := hh _ _ (.tail _ (.tail _ (.tail _ (.head _))))
  have h4 := hh _ _ (.tail _ (.tail _ (.tail _ (.tail _ (.head _)))))
  clear hh
  simp only [N.den, true_iff, Bool.false_eq_true, false_iff, bI_ne, ieq_iff, ilt_iff, Classical.not_not, ne_eq] at h0 h1 h2 h3 h4
  omega
def places8 : List Sx.Place := []
def lawPc8 : Pc := [((.lt (.var 31 0 65535) (.lit 263)), false), ((.lt (.var 31 0 65535) (.lit 260)), false), ((.lt (.var 31 0 65535) (.lit 257)), false), ((.lt (.var 31 0 65535) (.lit 320)), true), ((.lt (.var 31 0 65535) (.lit 832)), true)]
def exc8 : List Pc := []
theorem start8_yes : startYes Tryd.prog (tabGlob tabs) lawEv 1645504557321206042154969182557350504982735865633579863348608300 lawBody lawFn 3 100000 places8 exc8 (psV lawPs 0) (stTab tabs lawPc8) = true := by kernel_rfl
theorem places8_yes : ∀ p ∈ places8, placeYes Tryd.prog (tabGlob tabs) lawEv 1645504557321206042154969182557350504982735865633579863348608300 lawBody lawFn 3 100000 places8 exc8 p = true :=
  (fun p h => by cases h)
theorem places8_paths : ∀ p ∈ places8, pathsOk p.stk :=
  (fun p h => by cases h)
theorem exc8_no : ∀ q ∈ exc8, ∀ i, ¬ Holds i q := by intro q hq; cases hq
def lawPc14 : Pc := [((.eq (.var 31 0 65535) (.lit 324)), false), ((.eq (.var 31 0 65535) (.lit 323)), false), ((.eq (.var 31 0 65535) (.lit 322)), false), ((.eq (.var 31 0 65535) (.lit 321)), false), ((.eq (.var 31 0 65535) (.lit 320)), false), ((.lt (.var 31 0 65535) (.lit 325)), true), ((.lt (.var 31 0 65535) (.lit 385)), true), ((.lt (.var 31 0 65535) (.lit 320)), false), ((.lt (.var 31 0 65535) (.lit 832)), true)]
theorem x14_no (i : Nat → Int) (hh : Holds i lawPc14) : False := by
  have h0 := hh _ _ (.head _)
  have h1 := hh _ _ (.tail _ (.head _))
  have h2 := hh _ _ (.tail _ (.tail _ (.head _)))
  have h3 := hh _ _ (.tail _ (.tail _ (.tail _ (.head _))))
  have h4 := hh _ _ (.tail _ (.tail _ (.tail _ (.tail _ (.head _)))))
  have h5 := hh _ _ (.tail _ (.tail _ (.tail _ (.tail _ (.tail _ (.head _))))))
  have h6 := hh _ _ (.tail _ (.tail _ (.tail _ (.tail _ (.tail _ (.tail _ (.head _)))))))
  have h7 := hh _ _ (.tail _ (.tail _ (.tail _ (.tail _ (.tail _ (.tail _ (.tail _ (.head _))))))))
  have h8 := hh _ _ (.tail _ (.tail _ (.tail _ (.tail _ (.tail _ (.tail _ (.tail _ (.tail _ (.head _)))))))))
  clear hh
  simp only [N.den, true_iff, Bool.false_eq_true, false_iff, bI_ne, ieq_iff, ilt_iff, Classical.not_not, ne_eq] at h0 h1 h2 h3 h4 h5 h6 h7 h8
  omega
def places20 : List Sx.Place := []
def lawPc20 : Pc := [((.eq (.var 31 0 65535) (.lit 769)), true), ((.eq (.var 31 0 65535) (.lit 768)), false), ((.lt (.var 31 0 65535) (.lit 775)), true), ((.lt (.var 31 0 65535) (.lit 768)), false), ((.lt (.var 31 0 65535) (.lit 385)), false), ((.lt (.var 31 0 65535) (.lit 320)), false), ((.lt (.var 31 0 65535) (.lit 832)), true)]
def exc20 : List Pc := []
theorem start20_yes : startYes Tryd.prog (tabGlob tabs) lawEv 1645504557321206042154969182557350504982735865633579863348608300 lawBody lawFn 3 100000 places20 exc20 (psV lawPs 0) (stTab tabs lawPc20) = true := by kernel_rfl
theorem places20_yes : ∀ p ∈ places20, placeYes Tryd.prog (tabGlob tabs) lawEv 1645504557321206042154969182557350504982735865633579863348608300 lawBody lawFn 3 100000 places20 exc20 p = true :=
  (fun p h => by cases h)
theorem places20_paths : ∀ p ∈ places20, pathsOk p.stk :=
  (fun p h => by cases h)
theorem exc20_no : ∀ q ∈ exc20, ∀ i, ¬ Holds i q := by intro q hq; cases hq
def lawPc26 : Pc := [((.eq (.var 31 0 65535) (.lit 774)), false), ((.eq (.var 31 0 65535) (.lit 773)), false), ((.eq (.var 31 0 65535) (.lit 772)), false), ((.eq (.var 31 0 65535) (.lit 771)), false), ((.eq (.var 31 0 65535) (.lit 770)), false), ((.eq (.var 31 0 65535) (.lit 769)), false), ((.eq (.var 31 0 65535) (.lit 768)), false), ((.lt (.var 31 0 65535) (.lit 775)), true), ((.lt (.var 31 0 65535) (.lit 768)), false), ((.lt (.var 31 0 65535) (.lit 385)), false), ((.lt (.var 31 0 65535) (.lit 320)), false), ((.lt (.var 31 0 65535) (.lit 832)), true)]
theorem x26_no (i : Nat → Int) (hh : Holds i lawPc26) : False := by
  have h0 := hh _ _ (.head _)
  have h1 := hh _ _ (.tail _ (.head _))
  have h2 := hh _ _ (.tail _ (.tail _ (.head _)))
  have h3 := hh _ _ (.tail _ (.tail _ (.tail _ (.head _))))
  have h4 := hh _ _ (.tail _ (.tail _ (.tail _ (.tail _ (.head _)))))
  have h5 := hh _ _ (.tail _ (.tail _ (.tail _ (.tail _ (.tail _ (.head _))))))
  have h6 := hh _ _ (.tail _ (.tail _ (.tail _ (.tail _ (.tail _ (.tail _ (.head _)))))))
  have h7 := hh _ _ (.tail _ (.tail _ (.tail _ (.tail _ (.tail _ (.tail _ (.tail _ (.head _))))))))
  have h8 := hh _ _ (.tail _ (.tail _ (.tail _ (.tail _ (.tail _ (.tail _ (.tail _ (.tail _ (.head _)))))))))
  have h9 := hh _ _ (.tail _ (.tail _ (.tail _ (.tail _ (.tail _ (.tail _ (.tail _ (.tail _ (.tail _ (.head _))))))))))
  have h10 := hh _ _ (.tail _ (.tail _ (.tail _ (.tail _ (.tail _ (.tail _ (.tail _ (.tail _ (.tail _ (.tail _ (.head _)))))))))))
  have h11 := hh _ _ (.tail _ (.tail _ (.tail _ (.tail _ (.tail _ (.tail _ (.tail _ (.tail _ (.tail _ (.tail _ (.tail _ (.head _))))))))))))
  clear hh
  simp only [N.den, true_iff, Bool.false_eq_true, false_iff, bI_ne, ieq_iff, ilt_iff, Classical.not_not, ne_eq] at h0 h1 h2 h3 h4 h5 h6 h7 h8 h9 h10 h11
  omega
def places32 : List Sx.Place := []
def lawPc32 : Pc := [((.eq (.var 31 0 65535) (.lit 836)), true), ((.eq (.var 31 0 65535) (.lit 835)), false), ((.eq (.var 31 0 65535) (.lit 834)), false), ((.eq (.var 31 0 65535) (.lit 833)), false), ((.eq (.var 31 0 65535) (.lit 832)), false), ((.lt (.var 31 0 65535) (.lit 837)), true), ((.lt (.var 31 0 65535) (.lit 929)), true), ((.lt (.var 31 0 65535) (.lit 2816)), true), ((.lt (.var 31 0 65535) (.lit 832)), false)]
def exc32 : List Pc := []
theorem start32_yes : startYes Tryd.prog (tabGlob tabs) lawEv 1645504557321206042154969182557350504982735865633579863348608300 lawBody lawFn 3 100000 places32 exc32 (psV lawPs 0) (stTab tabs lawPc32) = true := by kernel_rfl
theorem places32_yes : ∀ p ∈ places32, placeYes Tryd.prog (tabGlob tabs) lawEv 1645504557321206042154969182557350504982735865633579863348608300 lawBody lawFn 3 100000 places32 exc32 p = true :=
  (fun p h => by cases h)
theorem places32_paths : ∀ p ∈ places32, pathsOk p.stk :=
  (fun p h => by cases h)
theorem exc32_no : ∀ q ∈ exc32, ∀ i, ¬ Holds i q := by intro q hq; cases hq
def places38 : List Sx.Place := []
def lawPc38 : Pc := [((.eq (.var 32 0 255) (.lit 3)), true), ((.eq (.var 32 0 255) (.lit 2)), false), ((.eq (.var 32 0 255) (.lit 1)), false), ((.eq (.var 32 0 255) (.lit 0)), false), ((.eq (.var 31 0 65535) (.lit 928)), true), ((.lt (.var 31 0 65535) (.lit 928)), false), ((.lt (.var 31 0 65535) (.lit 837)), false), ((.lt (.var 31 0 65535) (.lit 929)), true), ((.lt (.var 31 0 65535) (.lit 2816)), true), ((.lt (.var 31 0 65535) (.lit 832)), false)]
def exc38 : List Pc := []
theorem start38_yes : startYes Tryd.prog (tabGlob tabs) lawEv 1645504557321206042154969182557350504982735865633579863348608300 lawBody lawFn 3 100000 places38 exc38 (psV lawPs 0) (stTab tabs lawPc38) = true := by kernel_rfl
theorem places38_yes : ∀ p ∈ places38, placeYes Tryd.prog (tabGlob tabs) lawEv 1645504557321206042154969182557350504982735865633579863348608300 lawBody lawFn 3 100000 places38 exc38 p = true :=
  (fun p h => by cases h)
theorem places38_paths : ∀ p ∈ places38, pathsOk p.stk :=
  (fun p h => by cases h)
theorem exc38_no : ∀ q ∈ exc38, ∀ i, ¬ Holds i q := by intro q hq; cases hq
def places44 : List Sx.Place := []
def lawPc44 : Pc := [((.eq (.var 31 0 65535) (.lit 946)), true), ((.eq (.var 31 0 65535) (.lit 945)), false), ((.eq (.var 31 0 65535) (.lit 944)), false), ((.lt (.var 31 0 65535) (.lit 952)), true), ((.lt (.var 31 0 65535) (.lit 944)), false), ((.lt (.var 31 0 65535) (.lit 929)), false), ((.lt (.var 31 0 65535) (.lit 2816)), true), ((.lt (.var 31 0 65535) (.lit 832)), false)]
def exc44 : List Pc := []
theorem start44_yes : startYes Tryd.prog (tabGlob tabs) lawEv 1645504557321206042154969182557350504982735865633579863348608300 lawBody lawFn 3 100000 places44 exc44 (psV lawPs 0) (stTab tabs lawPc44) = true := by kernel_rfl
theorem places44_yes : ∀ p ∈ places44, placeYes Tryd.prog (tabGlob tabs) lawEv 1645504557321206042154969182557350504982735865633579863348608300 lawBody lawFn 3 100000 places44 exc44 p = true :=
  (fun p h => by cases h)
theorem places44_paths : ∀ p ∈ places44, pathsOk p.stk :=
  (fun p h => by cases h)
theorem exc44_no : ∀ q ∈ exc44, ∀ i, ¬ Holds i q := by intro q hq; cases hq
def lawPc50 : Pc := [((.eq (.var 31 0 65535) (.lit 951)), false), ((.eq (.var 31 0 65535) (.lit 950)), false), ((.eq (.var 31 0 65535) (.lit 949)), false), ((.eq (.var 31 0 65535) (.lit 948)), false), ((.eq (.var 31 0 65535) (.lit 947)), false), ((.eq (.var 31 0 65535) (.lit 946)), false), ((.eq (.var 31 0 65535) (.lit 945)), false), ((.eq (.var 31 0 65535) (.lit 944)), false), ((.lt (.var 31 0 65535) (.lit 952)), true), ((.lt (.var 31 0 65535) (.lit 944)), false), ((.lt (.var 31 0 65535) (.lit 929)), false), ((.lt (.var 31 0 65535) (.lit 2816)), true), ((.lt (.var 31 0 65535) (.lit 832)), false)]
theorem x50_no (i : Nat → Int) (hh : Holds i lawPc50) : False := by
  have h0 := hh _ _ (.head _)
  have h1 := hh _ _ (.tail _ (.head _))
  have h2 := hh _ _ (.tail _ (.tail _ (.head _)))
  have h3 := hh _ _ (.tail _ (.tail _ (.tail _ (.head _))))
  have h4 := hh _ _ (.tail _ (.tail _ (.tail _ (.tail _ (.head _)))))
  have h5 := hh _ _ (.tail _ (.tail _ (.tail _ (.tail _ (.tail _ (.head _))))))
  have h6 := hh _ _ (.tail _ (.tail _ (.tail _ (.tail _ (.tail _ (.tail _ (.head _)))))))
  have h7 := hh _ _ (.tail _ (.tail _ (.tail _ (.tail _ (.tail _ (.tail _ (.tail _ (.head _))))))))
  have h8 := hh _ _ (.tail _ (.tail _ (.tail _ (.tail _ (.tail _ (.tail _ (.tail _ (.tail _ (.head _)))))))))
  have h9 := hh _ _ (.tail _ (.tail _ (.tail _ (.tail _ (.tail _ (.tail _ (.tail _ (.tail _ (.tail _ (.head _))))))))))
  have h10 := hh _ _ (.tail _ (.tail _ (.tail _ (.tail _ (.tail _ (.tail _ (.tail _ (.tail _ (.tail _ (.tail _ (.head _)))))))))))
  have h11 := hh _ _ (.tail _ (.tail _ (.tail _ (.tail _ (.tail _ (.tail _ (.tail _ (.tail _ (.tail _ (.tail _ (.tail _ (.head _))))))))))))
  have h12 := hh _ _ (.tail _ (.tail _ (.tail _ (.tail _ (.tail _ (.tail _ (.tail _ (.tail _ (.tail _ (.tail _ (.tail _ (.tail _ (.head _)))))))))))))
  clear hh
  simp only [N.den, true_iff, Bool.false_eq_true, false_iff, bI_ne, ieq_iff, ilt_iff, Classical.not_not, ne_eq] at h0 h1 h2 h3 h4 h5 h6 h7 h8 h9 h10 h11 h12
  omega
def places56 : List Sx.Place := []
def lawPc56 : Pc := [((.eq (.var 31 0 65535) (.lit 3072)), true), ((.lt (.var 31 0 65535) (.lit 3072)), false), ((.lt (.var 31 0 65535) (.lit 2819)), false), ((.lt (.var 31 0 65535) (.lit 3075)), true), ((.lt (.var 31 0 65535) (.lit 2816)), false), ((.lt (.var 31 0 65535) (.lit 832)), false)]
def exc56 : List Pc := []
theorem start56_yes : startYes Tryd.prog (tabGlob tabs) lawEv 1645504557321206042154969182557350504982735865633579863348608300 lawBody lawFn 3 100000 places56 exc56 (psV lawPs 0) (stTab tabs lawPc56) = true := by kernel_rfl
theorem places56_yes : ∀ p ∈ places56, placeYes Tryd.prog (tabGlob tabs) lawEv 1645504557321206042154969182557350504982735865633579863348608300 lawBody lawFn 3 100000 places56 exc56 p = true :=
  (fun p h => by cases h)
theorem places56_paths : ∀ p ∈ places56, pathsOk p.stk :=
  (fun p h => by cases h)
theorem exc56_no : ∀ q ∈ exc56, ∀ i, ¬ Holds i q := by intro q hq; cases hq
def places62 : List Sx.Place := []
def lawPc62 : Pc := [((.eq (.var 31 0 65535) (.lit 3858)), true), ((.eq (.var 31 0 65535) (.lit 3857)), false), ((.lt (.var 31 0 65535) (.lit 3861)), true), ((.lt (.var 31 0 65535) (.lit 3857)), false), ((.lt (.var 31 0 65535) (.lit 3075)), false), ((.lt (.var 31 0 65535) (.lit 2816)), false), ((.lt (.var 31 0 65535) (.lit 832)), false)]
def exc62 : List Pc := []
theorem start62_yes : startYes Tryd.prog (tabGlob tabs) lawEv 1645504557321206042154969182557350504982735865633579863348608300 lawBody lawFn 3 100000 places62 exc62 (psV lawPs 0) (stTab tabs lawPc62) = true := by kernel_rfl
theorem places62_yes : ∀ p ∈ places62, placeYes Tryd.prog (tabGlob tabs) lawEv 1645504557321206042154969182557350504982735865633579863348608300 lawBody lawFn 3 100000 places62 exc62 p = true :=
  (fun p h => by cases h)
theorem places62_paths : ∀ p ∈ places62, pathsOk p.stk :=
  (fun p h => by cases h)
theorem exc62_no : ∀ q ∈ exc62, ∀ i, ¬ Holds i q := by intro q hq; cases hq
end
end Go.Proofs.YtffhbmkpcenkoaaDoor.Sx
