/- CsrKeeps: a part of its cases. -/
import Derived.Test.YtffhbmkpcenkoaaDoorUCsrKeeps
set_option linter.unusedVariables false
set_option linter.unusedSimpArgs false
namespace Go.Proofs.YtffhbmkpcenkoaaDoor.Sx
open Go
noncomputable section
set_option maxRecDepth 100000
def places5 : List Sx.Place := []
def lawPc5 : Pc := [((.eq (.var 31 0 65535) (.lit 261)), true), ((.eq (.var 31 0 65535) (.lit 260)), false), ((.lt (.var 31 0 65535) (.lit 263)), true), ((.lt (.var 31 0 65535) (.lit 260)), false), ((.lt (.var 31 0 65535) (.lit 257)), false), ((.lt (.var 31 0 65535) (.lit 320)), true), ((.lt (.var 31 0 65535) (.lit 832)), true)]
def exc5 : List Pc := []
theorem start5_yes : startYes Tryd.prog (tabGlob tabs) lawEv 1645504557321206042154969182557350504982735865633579863348608300 lawBody lawFn 3 100000 places5 exc5 (psV lawPs 0) (stTab tabs lawPc5) = true := by kernel_rfl
theorem places5_yes : ∀ p ∈ places5, placeYes Tryd.prog (tabGlob tabs) lawEv 1645504557321206042154969182557350504982735865633579863348608300 lawBody lawFn 3 100000 places5 exc5 p = true :=
  (fun p h => by cases h)
theorem places5_paths : ∀ p ∈ places5, pathsOk p.stk :=
  (fun p h => by cases h)
theorem exc5_no : ∀ q ∈ exc5, ∀ i, ¬ Holds i q := by intro q hq; cases hq
def places11 : List Sx.Place := []
def lawPc11 : Pc := [((.eq (.var 31 0 65535) (.lit 322)), true), ((.eq (.var 31 0 65535) (.lit 321)), false), ((.eq (.var 31 0 65535) (.lit 320)), false), ((.lt (.var 31 0 65535) (.lit 325)), true), ((.lt (.var 31 0 65535) (.lit 385)), true), ((.lt (.var 31 0 65535) (.lit 320)), false), ((.lt (.var 31 0 65535) (.lit 832)), true)]
def exc11 : List Pc := []
theorem start11_yes : startYes Tryd.prog (tabGlob tabs) lawEv 1645504557321206042154969182557350504982735865633579863348608300 lawBody lawFn 3 100000 places11 exc11 (psV lawPs 0) (stTab tabs lawPc11) = true := by kernel_rfl
theorem places11_yes : ∀ p ∈ places11, placeYes Tryd.prog (tabGlob tabs) lawEv 1645504557321206042154969182557350504982735865633579863348608300 lawBody lawFn 3 100000 places11 exc11 p = true :=
  (fun p h => by cases h)
theorem places11_paths : ∀ p ∈ places11, pathsOk p.stk :=
  (fun p h => by cases h)
theorem exc11_no : ∀ q ∈ exc11, ∀ i, ¬ Holds i q := by intro q hq; cases hq
def lawPc17 : Pc := [((.eq (.var 31 0 65535) (.lit 384)), false), ((.lt (.var 31 0 65535) (.lit 384)), false), ((.lt (.var 31 0 65535) (.lit 325)), false), ((.lt (.var 31 0 65535) (.lit 385)), true), ((.lt (.var 31 0 65535) (.lit 320)), false), ((.lt (.var 31 0 65535) (.lit 832)), true)]
theorem x17_no (i : Nat → Int) (hh : Holds i lawPc17) : False := by
  have h0 := hh _ _ (.head _)
  have h1 := hh _ _ (.tail _ (.head _))
  have h2 := hh _ _ (.tail _ (.tail _ (.head _)))
  have h3 := hh _ _ (.tail _ (.tail _ (.tail _ (.head _))))
  have h4 := hh _ _ (.tail _ (.tail _ (.tail _ (.tail _ (.head _)))))
  have h5 := hh _ _ (.tail _ (.tail _ (.tail _ (.tail _ (.tail _ (.head _))))))
  clear hh
  simp only [N.den, true_iff, Bool.false_eq_true, false_iff, bI_ne, ieq_iff, ilt_iff, Classical.not_not, ne_eq] at h0 h1 h2 h3 h4 h5
  omega
def places23 : List Sx.Place := []
def lawPc23 : Pc := [((.eq (.var 31 0 65535) (.lit 772)), true), ((.eq (.var 31 0 65535) (.lit 771)), false), ((.eq (.var 31 0 65535) (.lit 770)), false), ((.eq (.var 31 0 65535) (.lit 769)), false), ((.eq (.var 31 0 65535) (.lit 768)), false), ((.lt (.var 31 0 65535) (.lit 775)), true), ((.lt (.var 31 0 65535) (.lit 768)), false), ((.lt (.var 31 0 65535) (.lit 385)), false), ((.lt (.var 31 0 65535) (.lit 320)), false), ((.lt (.var 31 0 65535) (.lit 832)), true)]
def exc23 : List Pc := []
theorem start23_yes : startYes Tryd.prog (tabGlob tabs) lawEv 1645504557321206042154969182557350504982735865633579863348608300 lawBody lawFn 3 100000 places23 exc23 (psV lawPs 0) (stTab tabs lawPc23) = true := by kernel_rfl
theorem places23_yes : ∀ p ∈ places23, placeYes Tryd.prog (tabGlob tabs) lawEv 1645504557321206042154969182557350504982735865633579863348608300 lawBody lawFn 3 100000 places23 exc23 p = true :=
  (fun p h => by cases h)
theorem places23_paths : ∀ p ∈ places23, pathsOk p.stk :=
  (fun p h => by cases h)
theorem exc23_no : ∀ q ∈ exc23, ∀ i, ¬ Holds i q := by intro q hq; cases hq
def places29 : List Sx.Place := []
def lawPc29 : Pc := [((.eq (.var 31 0 65535) (.lit 833)), true), ((.eq (.var 31 0 65535) (.lit 832)), false), ((.lt (.var 31 0 65535) (.lit 837)), true), ((.lt (.var 31 0 65535) (.lit 929)), true), ((.lt (.var 31 0 65535) (.lit 2816)), true), ((.lt (.var 31 0 65535) (.lit 832)), false)]
def exc29 : List Pc := []
theorem start29_yes : startYes Tryd.prog (tabGlob tabs) lawEv 1645504557321206042154969182557350504982735865633579863348608300 lawBody lawFn 3 100000 places29 exc29 (psV lawPs 0) (stTab tabs lawPc29) = true := by kernel_rfl
theorem places29_yes : ∀ p ∈ places29, placeYes Tryd.prog (tabGlob tabs) lawEv 1645504557321206042154969182557350504982735865633579863348608300 lawBody lawFn 3 100000 places29 exc29 p = true :=
  (fun p h => by cases h)
theorem places29_paths : ∀ p ∈ places29, pathsOk p.stk :=
  (fun p h => by cases h)
theorem exc29_no : ∀ q ∈ exc29, ∀ i, ¬ Holds i q := by intro q hq; cases hq
def places35 : List Sx.Place := []
def lawPc35 : Pc := [((.eq (.var 32 0 255) (.lit 0)), true), ((.eq (.var 31 0 65535) (.lit 928)), true), ((.lt (.var 31 0 65535) (.lit 928)), false), ((.lt (.var 31 0 65535) (.lit 837)), false), ((.lt (.var 31 0 65535) (.lit 929)), true), ((.lt (.var 31 0 65535) (.lit 2816)), true), ((.lt (.var 31 0 65535) (.lit 832)), false)]
def exc35 : List Pc := []
theorem start35_yes : startYes Tryd.prog (tabGlob tabs) lawEv 1645504557321206042154969182557350504982735865633579863348608300 lawBody lawFn 3 100000 places35 exc35 (psV lawPs 0) (stTab tabs lawPc35) = true := by kernel_rfl
theorem places35_yes : ∀ p ∈ places35, placeYes Tryd.prog (tabGlob tabs) lawEv 1645504557321206042154969182557350504982735865633579863348608300 lawBody lawFn 3 100000 places35 exc35 p = true :=
  (fun p h => by cases h)
theorem places35_paths : ∀ p ∈ places35, pathsOk p.stk :=
  (fun p h => by cases h)
theorem exc35_no : ∀ q ∈ exc35, ∀ i, ¬ Holds i q := by intro q hq; cases hq
def places41 : List Sx.Place := []
def lawPc41 : Pc := [((.lt (.var 31 0 65535) (.lit 944)), true), ((.lt (.var 31 0 65535) (.lit 929)), false), ((.lt (.var 31 0 65535) (.lit 2816)), true), ((.lt (.var 31 0 65535) (.lit 832)), false)]
def exc41 : List Pc := []
theorem start41_yes : startYes Tryd.prog (tabGlob tabs) lawEv 1645504557321206042154969182557350504982735865633579863348608300 lawBody lawFn 3 100000 places41 exc41 (psV lawPs 0) (stTab tabs lawPc41) = true := by kernel_rfl
theorem places41_yes : ∀ p ∈ places41, placeYes Tryd.prog (tabGlob tabs) lawEv 1645504557321206042154969182557350504982735865633579863348608300 lawBody lawFn 3 100000 places41 exc41 p = true :=
  (fun p h => by cases h)
theorem places41_paths : ∀ p ∈ places41, pathsOk p.stk :=
  (fun p h => by cases h)
theorem exc41_no : ∀ q ∈ exc41, ∀ i, ¬ Holds i q := by intro q hq; cases hq
def places47 : List Sx.Place := []
def lawPc47 : Pc := [((.eq (.var 31 0 65535) (.lit 949)), true), ((.eq (.var 31 0 65535) (.lit 948)), false), ((.eq (.var 31 0 65535) (.lit 947)), false), ((.eq (.var 31 0 65535) (.lit 946)), false), ((.eq (.var 31 0 65535) (.lit 945)), false), ((.eq (.var 31 0 65535) (.lit 944)), false), ((.lt (.var 31 0 65535) (.lit 952)), true), ((.lt (.var 31 0 65535) (.lit 944)), false), ((.lt (.var 31 0 65535) (.lit 929)), false), ((.lt (.var 31 0 65535) (.lit 2816)), true), ((.lt (.var 31 0 65535) (.lit 832)), false)]
def exc47 : List Pc := []
theorem start47_yes : startYes Tryd.prog (tabGlob tabs) lawEv 1645504557321206042154969182557350504982735865633579863348608300 lawBody lawFn 3 100000 places47 exc47 (psV lawPs 0) (stTab tabs lawPc47) = true := by kernel_rfl
theorem places47_yes : ∀ p ∈ places47, placeYes Tryd.prog (tabGlob tabs) lawEv 1645504557321206042154969182557350504982735865633579863348608300 lawBody lawFn 3 100000 places47 exc47 p = true :=
  (fun p h => by cases h)
theorem places47_paths : ∀ p ∈ places47, pathsOk p.stk :=
  (fun p h => by cases h)
theorem exc47_no : ∀ q ∈ exc47, ∀ i, ¬ Holds i q := by intro q hq; cases hq
def places53 : List Sx.Place := []
def lawPc53 : Pc := [((.eq (.var 31 0 65535) (.lit 2818)), true), ((.eq (.var 31 0 65535) (.lit 2816)), false), ((.lt (.var 31 0 65535) (.lit 2819)), true), ((.lt (.var 31 0 65535) (.lit 3075)), true), ((.lt (.var 31 0 65535) (.lit 2816)), false), ((.lt (.var 31 0 65535) (.lit 832)), false)]
def exc53 : List Pc := []
theorem start53_yes : startYes Tryd.prog (tabGlob tabs) lawEv 1645504557321206042154969182557350504982735865633579863348608300 lawBody lawFn 3 100000 places53 exc53 (psV lawPs 0) (stTab tabs lawPc53) = true := by kernel_rfl
theorem places53_yes : ∀ p ∈ places53, placeYes Tryd.prog (tabGlob tabs) lawEv 1645504557321206042154969182557350504982735865633579863348608300 lawBody lawFn 3 100000 places53 exc53 p = true :=
  (fun p h => by cases h)
theorem places53_paths : ∀ p ∈ places53, pathsOk p.stk :=
  (fun p h => by cases h)
theorem exc53_no : ∀ q ∈ exc53, ∀ i, ¬ Holds i q := by intro q hq; cases hq
def lawPc59 : Pc := [((.eq (.var 31 0 65535) (.lit 3074)), false), ((.eq (.var 31 0 65535) (.lit 3073)), false), ((.eq (.var 31 0 65535) (.lit 3072)), false), ((.lt (.var 31 0 65535) (.lit 3072)), false), ((.lt (.var 31 0 65535) (.lit 2819)), false), ((.lt (.var 31 0 65535) (.lit 3075)), true), ((.lt (.var 31 0 65535) (.lit 2816)), false), ((.lt (.var 31 0 65535) (.lit 832)), false)]
theorem x59_no (i : Nat → Int) (hh : Holds i lawPc59) : False := by
  have h0 := hh _ _ (.head _)
  have h1 := hh _ _ (.tail _ (.head _))
  have h2 := hh _ _ (.tail _ (.tail _ (.head _)))
  have h3 := hh _ _ (.tail _ (.tail _ (.tail _ (.head _))))
  have h4 := hh _ _ (.tail _ (.tail _ (.tail _ (.tail _ (.head _)))))
  have h5 := hh _ _ (.tail _ (.tail _ (.tail _ (.tail _ (.tail _ (.head _))))))
  have h6 := hh _ _ (.tail _ (.tail _ (.tail _ (.tail _ (.tail _ (.tail _ (.head _)))))))
  have h7 := hh _ _ (.tail _ (.tail _ (.tail _ (.tail _ (.tail _ (.tail _ (.tail _ (.head _))))))))
  clear hh
  simp only [N.den, true_iff, Bool.false_eq_true, false_iff, bI_ne, ieq_iff, ilt_iff, Classical.not_not, ne_eq] at h0 h1 h2 h3 h4 h5 h6 h7
  omega
def lawPc65 : Pc := [((.eq (.var 31 0 65535) (.lit 3860)), false), ((.eq (.var 31 0 65535) (.lit 3859)), false), ((.eq (.var 31 0 65535) (.lit 3858)), false), ((.eq (.var 31 0 65535) (.lit 3857)), false), ((.lt (.var 31 0 65535) (.lit 3861)), true), ((.lt (.var 31 0 65535) (.lit 3857)), false), ((.lt (.var 31 0 65535) (.lit 3075)), false), ((.lt (.var 31 0 65535) (.lit 2816)), false), ((.lt (.var 31 0 65535) (.lit 832)), false)]
theorem x65_no (i : Nat → Int) (hh : Holds i lawPc65) : False := by
  have h0 := hh _ _ (.head _)
  have h1 := hh _ _ (.tail _ (.head _))
  have h2 := hh _ _ (.tail _ (.tail _ (.head _)))
  have h3 := hh _ _ (.tail _ (.tail _ (.tail _ (.head _))))
  have h4 := hh _ _ (.tail _ (.tail _ (.tail _ (.tail _ (.head _)))))
  have h5 := hh _ _ (.tail _ (.tail _ (.tail _ (.tail _ (.tail _ (.head _))))))
  have h6 := hh _ _ (.tail _ (.tail _ (.tail _ (.tail _ (.tail _ (.tail _ (.head _)))))))
  have h7 := hh _ _ (.tail _ (.tail _ (.tail _ (.tail _ (.tail _ (.tail _ (.tail _ (.head _))))))))
  have h8 := hh _ _ (.tail _ (.tail _ (.tail _ (.tail _ (.tail _ (.tail _ (.tail _ (.tail _ (.head _)))))))))
  clear hh
  simp only [N.den, true_iff, Bool.false_eq_true, false_iff, bI_ne, ieq_iff, ilt_iff, Classical.not_not, ne_eq] at h0 h1 h2 h3 h4 h5 h6 h7 h8
  omega
end
end Go.Proofs.YtffhbmkpcenkoaaDoor.Sx
