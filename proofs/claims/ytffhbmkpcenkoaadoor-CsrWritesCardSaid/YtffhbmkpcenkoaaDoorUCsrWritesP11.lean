/- CsrWrites: a part of its cases. -/
import Derived.Test.YtffhbmkpcenkoaaDoorUCsrWrites
set_option linter.unusedVariables false
set_option linter.unusedSimpArgs false
namespace Go.Proofs.YtffhbmkpcenkoaaDoor.Sx
open Go
noncomputable section
set_option maxRecDepth 100000
def places11 : List Sx.Place := []
def lawPc11 : Pc := [((.eq (.var 32 0 255) (.lit 3)), false), ((.eq (.var 32 0 255) (.lit 2)), false), ((.eq (.var 32 0 255) (.lit 1)), false), ((.eq (.var 32 0 255) (.lit 0)), false), ((.lt (.var 31 0 65535) (.lit 928)), true), ((.lt (.var 31 0 65535) (.lit 768)), false), ((.lt (.var 31 0 65535) (.lit 512)), false), ((.lt (.var 31 0 65535) (.lit 256)), false)]
def exc11 : List Pc := []
theorem exc11_no : ∀ q ∈ exc11, ∀ i, ¬ Holds i q :=
  (fun p h => by cases h)
theorem start11_yes : startYes Tryd.prog (tabGlob tabs) lawEv 1645504557321206042154969182557350504982735865633579863348608300 lawBody lawFn 3 100000 places11 exc11 (psV lawPs 0) (stTab tabs lawPc11) = true := by kernel_rfl
theorem places11_yes : ∀ p ∈ places11, placeYes Tryd.prog (tabGlob tabs) lawEv 1645504557321206042154969182557350504982735865633579863348608300 lawBody lawFn 3 100000 places11 exc11 p = true :=
  (fun p h => by cases h)
theorem places11_paths : ∀ p ∈ places11, pathsOk p.stk :=
  (fun p h => by cases h)
def places23 : List Sx.Place := []
def lawPc23 : Pc := [((.eq (.var 32 0 255) (.lit 1)), true), ((.eq (.var 32 0 255) (.lit 0)), false), ((.eq (.var 31 0 65535) (.lit 945)), true), ((.eq (.var 31 0 65535) (.lit 944)), false), ((.lt (.var 31 0 65535) (.lit 952)), true), ((.lt (.var 31 0 65535) (.lit 944)), false), ((.lt (.var 31 0 65535) (.lit 928)), false), ((.lt (.var 31 0 65535) (.lit 768)), false), ((.lt (.var 31 0 65535) (.lit 512)), false), ((.lt (.var 31 0 65535) (.lit 256)), false)]
def exc23 : List Pc := []
theorem exc23_no : ∀ q ∈ exc23, ∀ i, ¬ Holds i q :=
  (fun p h => by cases h)
theorem start23_yes : startYes Tryd.prog (tabGlob tabs) lawEv 1645504557321206042154969182557350504982735865633579863348608300 lawBody lawFn 3 100000 places23 exc23 (psV lawPs 0) (stTab tabs lawPc23) = true := by kernel_rfl
theorem places23_yes : ∀ p ∈ places23, placeYes Tryd.prog (tabGlob tabs) lawEv 1645504557321206042154969182557350504982735865633579863348608300 lawBody lawFn 3 100000 places23 exc23 p = true :=
  (fun p h => by cases h)
theorem places23_paths : ∀ p ∈ places23, pathsOk p.stk :=
  (fun p h => by cases h)
def places35 : List Sx.Place := []
def lawPc35 : Pc := [((.eq (.var 32 0 255) (.lit 3)), true), ((.eq (.var 32 0 255) (.lit 2)), false), ((.eq (.var 32 0 255) (.lit 1)), false), ((.eq (.var 32 0 255) (.lit 0)), false), ((.eq (.var 31 0 65535) (.lit 947)), true), ((.eq (.var 31 0 65535) (.lit 946)), false), ((.eq (.var 31 0 65535) (.lit 945)), false), ((.eq (.var 31 0 65535) (.lit 944)), false), ((.lt (.var 31 0 65535) (.lit 952)), true), ((.lt (.var 31 0 65535) (.lit 944)), false), ((.lt (.var 31 0 65535) (.lit 928)), false), ((.lt (.var 31 0 65535) (.lit 768)), false), ((.lt (.var 31 0 65535) (.lit 512)), false), ((.lt (.var 31 0 65535) (.lit 256)), false)]
def exc35_0 : Pc := [((.eq (.ite (.ite (.eq (.ar .and .u64 (.ar .shr .u64 (.var 22 0 18446744073709551615) (.lit 24)) (.lit 128)) (.lit 0)) (.ite (.eq (.ar .and .u64 (.ar .shr .u64 (.ar .shr .u64 (.var 22 0 18446744073709551615) (.lit 24)) (.lit 8)) (.lit 128)) (.lit 0)) (.lit 1) (.not (.eq (.ar .and .u64 (.ar .shr .u64 (.ar .shr .u64 (.var 22 0 18446744073709551615) (.lit 24)) (.lit 8)) (.lit 24)) (.lit 8)))) (.lit 0)) (.ar .and .u64 (.var 34 0 18446744073709551615) (.lit 18014398509481983)) (.var 26 0 18446744073709551615)) (.ite (.ite (.lt (.ar .rem .u64 (.ar .shr .u64 (.var 22 0 18446744073709551615) (.lit 24)) (.lit 256)) (.lit 128)) (.ite (.lt (.ar .rem .u64 (.ar .shr .u64 (.var 22 0 18446744073709551615) (.lit 32)) (.lit 256)) (.lit 128)) (.lit 0) (.eq (.ar .rem .u64 (.ar .quo .u64 (.ar .rem .u64 (.ar .shr .u64 (.var 22 0 18446744073709551615) (.lit 32)) (.lit 256)) (.lit 8)) (.lit 4)) (.lit 1))) (.lit 1)) (.var 26 0 18446744073709551615) (.ar .rem .u64 (.var 34 0 18446744073709551615) (.lit 18014398509481984)))), false), ((.eq (.var 32 0 255) (.lit 3)), true), ((.eq (.var 32 0 255) (.lit 2)), false), ((.eq (.var 32 0 255) (.lit 1)), false), ((.eq (.var 32 0 255) (.lit 0)), false), ((.eq (.var 31 0 65535) (.lit 947)), true), ((.eq (.var 31 0 65535) (.lit 946)), false), ((.eq (.var 31 0 65535) (.lit 945)), false), ((.eq (.var 31 0 65535) (.lit 944)), false), ((.lt (.var 31 0 65535) (.lit 952)), true), ((.lt (.var 31 0 65535) (.lit 944)), false), ((.lt (.var 31 0 65535) (.lit 928)), false), ((.lt (.var 31 0 65535) (.lit 768)), false), ((.lt (.var 31 0 65535) (.lit 512)), false), ((.lt (.var 31 0 65535) (.lit 256)), false)]
def exc35 : List Pc := [exc35_0]
theorem exc35_0_no : refute exc35_0 = true := by kernel_rfl
theorem exc35_no : ∀ q ∈ exc35, ∀ i, ¬ Holds i q :=
  List.forall_mem_cons.2 ⟨refute_ok exc35_0_no, (fun p h => by cases h)⟩
theorem start35_yes : startYes Tryd.prog (tabGlob tabs) lawEv 1645504557321206042154969182557350504982735865633579863348608300 lawBody lawFn 3 100000 places35 exc35 (psV lawPs 0) (stTab tabs lawPc35) = true := by kernel_rfl
theorem places35_yes : ∀ p ∈ places35, placeYes Tryd.prog (tabGlob tabs) lawEv 1645504557321206042154969182557350504982735865633579863348608300 lawBody lawFn 3 100000 places35 exc35 p = true :=
  (fun p h => by cases h)
theorem places35_paths : ∀ p ∈ places35, pathsOk p.stk :=
  (fun p h => by cases h)
def places47 : List Sx.Place := []
def lawPc47 : Pc := [((.eq (.var 32 0 255) (.lit 0)), true), ((.eq (.var 31 0 65535) (.lit 950)), true), ((.eq (.var 31 0 65535) (.lit 949)), false), ((.eq (.var 31 0 65535) (.lit 948)), false), ((.eq (.var 31 0 65535) (.lit 947)), false), ((.eq (.var 31 0 65535) (.lit 946)), false), ((.eq (.var 31 0 65535) (.lit 945)), false), ((.eq (.var 31 0 65535) (.lit 944)), false), ((.lt (.var 31 0 65535) (.lit 952)), true), ((.lt (.var 31 0 65535) (.lit 944)), false), ((.lt (.var 31 0 65535) (.lit 928)), false), ((.lt (.var 31 0 65535) (.lit 768)), false), ((.lt (.var 31 0 65535) (.lit 512)), false), ((.lt (.var 31 0 65535) (.lit 256)), false)]
def exc47 : List Pc := []
theorem exc47_no : ∀ q ∈ exc47, ∀ i, ¬ Holds i q :=
  (fun p h => by cases h)
theorem start47_yes : startYes Tryd.prog (tabGlob tabs) lawEv 1645504557321206042154969182557350504982735865633579863348608300 lawBody lawFn 3 100000 places47 exc47 (psV lawPs 0) (stTab tabs lawPc47) = true := by kernel_rfl
theorem places47_yes : ∀ p ∈ places47, placeYes Tryd.prog (tabGlob tabs) lawEv 1645504557321206042154969182557350504982735865633579863348608300 lawBody lawFn 3 100000 places47 exc47 p = true :=
  (fun p h => by cases h)
theorem places47_paths : ∀ p ∈ places47, pathsOk p.stk :=
  (fun p h => by cases h)
def places59 : List Sx.Place := []
def lawPc59 : Pc := [((.eq (.var 32 0 255) (.lit 2)), true), ((.eq (.var 32 0 255) (.lit 1)), false), ((.eq (.var 32 0 255) (.lit 0)), false), ((.lt (.var 31 0 65535) (.lit 952)), false), ((.lt (.var 31 0 65535) (.lit 944)), false), ((.lt (.var 31 0 65535) (.lit 928)), false), ((.lt (.var 31 0 65535) (.lit 768)), false), ((.lt (.var 31 0 65535) (.lit 512)), false), ((.lt (.var 31 0 65535) (.lit 256)), false)]
def exc59 : List Pc := []
theorem exc59_no : ∀ q ∈ exc59, ∀ i, ¬ Holds i q :=
  (fun p h => by cases h)
theorem start59_yes : startYes Tryd.prog (tabGlob tabs) lawEv 1645504557321206042154969182557350504982735865633579863348608300 lawBody lawFn 3 100000 places59 exc59 (psV lawPs 0) (stTab tabs lawPc59) = true := by kernel_rfl
theorem places59_yes : ∀ p ∈ places59, placeYes Tryd.prog (tabGlob tabs) lawEv 1645504557321206042154969182557350504982735865633579863348608300 lawBody lawFn 3 100000 places59 exc59 p = true :=
  (fun p h => by cases h)
theorem places59_paths : ∀ p ∈ places59, pathsOk p.stk :=
  (fun p h => by cases h)
end
end Go.Proofs.YtffhbmkpcenkoaaDoor.Sx
