/- CsrWrites: a part of its cases. -/
import Derived.Test.YtffhbmkpcenkoaaDoorUCsrWrites
set_option linter.unusedVariables false
set_option linter.unusedSimpArgs false
namespace Go.Proofs.YtffhbmkpcenkoaaDoor.Sx
open Go
noncomputable section
set_option maxRecDepth 100000
def places1 : List Sx.Place := []
def lawPc1 : Pc := [((.eq (.var 32 0 255) (.lit 0)), true), ((.lt (.var 31 0 65535) (.lit 512)), true), ((.lt (.var 31 0 65535) (.lit 256)), false)]
def exc1 : List Pc := []
theorem exc1_no : ∀ q ∈ exc1, ∀ i, ¬ Holds i q :=
  (fun p h => by cases h)
theorem start1_yes : startYes Tryd.prog (tabGlob tabs) lawEv 1645504557321206042154969182557350504982735865633579863348608300 lawBody lawFn 3 100000 places1 exc1 (psV lawPs 0) (stTab tabs lawPc1) = true := by kernel_rfl
theorem places1_yes : ∀ p ∈ places1, placeYes Tryd.prog (tabGlob tabs) lawEv 1645504557321206042154969182557350504982735865633579863348608300 lawBody lawFn 3 100000 places1 exc1 p = true :=
  (fun p h => by cases h)
theorem places1_paths : ∀ p ∈ places1, pathsOk p.stk :=
  (fun p h => by cases h)
def places13 : List Sx.Place := []
def lawPc13 : Pc := [((.eq (.var 32 0 255) (.lit 1)), true), ((.eq (.var 32 0 255) (.lit 0)), false), ((.lt (.var 31 0 65535) (.lit 944)), true), ((.lt (.var 31 0 65535) (.lit 928)), false), ((.lt (.var 31 0 65535) (.lit 768)), false), ((.lt (.var 31 0 65535) (.lit 512)), false), ((.lt (.var 31 0 65535) (.lit 256)), false)]
def exc13 : List Pc := []
theorem exc13_no : ∀ q ∈ exc13, ∀ i, ¬ Holds i q :=
  (fun p h => by cases h)
theorem start13_yes : startYes Tryd.prog (tabGlob tabs) lawEv 1645504557321206042154969182557350504982735865633579863348608300 lawBody lawFn 3 100000 places13 exc13 (psV lawPs 0) (stTab tabs lawPc13) = true := by kernel_rfl
theorem places13_yes : ∀ p ∈ places13, placeYes Tryd.prog (tabGlob tabs) lawEv 1645504557321206042154969182557350504982735865633579863348608300 lawBody lawFn 3 100000 places13 exc13 p = true :=
  (fun p h => by cases h)
theorem places13_paths : ∀ p ∈ places13, pathsOk p.stk :=
  (fun p h => by cases h)
def places25 : List Sx.Place := []
def lawPc25 : Pc := [((.eq (.var 32 0 255) (.lit 3)), true), ((.eq (.var 32 0 255) (.lit 2)), false), ((.eq (.var 32 0 255) (.lit 1)), false), ((.eq (.var 32 0 255) (.lit 0)), false), ((.eq (.var 31 0 65535) (.lit 945)), true), ((.eq (.var 31 0 65535) (.lit 944)), false), ((.lt (.var 31 0 65535) (.lit 952)), true), ((.lt (.var 31 0 65535) (.lit 944)), false), ((.lt (.var 31 0 65535) (.lit 928)), false), ((.lt (.var 31 0 65535) (.lit 768)), false), ((.lt (.var 31 0 65535) (.lit 512)), false), ((.lt (.var 31 0 65535) (.lit 256)), false)]
def exc25_0 : Pc := [((.eq (.ite (.ite (.eq (.ar .and .u64 (.ar .shr .u64 (.var 22 0 18446744073709551615) (.lit 8)) (.lit 128)) (.lit 0)) (.ite (.eq (.ar .and .u64 (.ar .shr .u64 (.ar .shr .u64 (.var 22 0 18446744073709551615) (.lit 8)) (.lit 8)) (.lit 128)) (.lit 0)) (.lit 1) (.not (.eq (.ar .and .u64 (.ar .shr .u64 (.ar .shr .u64 (.var 22 0 18446744073709551615) (.lit 8)) (.lit 8)) (.lit 24)) (.lit 8)))) (.lit 0)) (.ar .and .u64 (.var 34 0 18446744073709551615) (.lit 18014398509481983)) (.var 24 0 18446744073709551615)) (.ite (.ite (.lt (.ar .rem .u64 (.ar .shr .u64 (.var 22 0 18446744073709551615) (.lit 8)) (.lit 256)) (.lit 128)) (.ite (.lt (.ar .rem .u64 (.ar .shr .u64 (.var 22 0 18446744073709551615) (.lit 16)) (.lit 256)) (.lit 128)) (.lit 0) (.eq (.ar .rem .u64 (.ar .quo .u64 (.ar .rem .u64 (.ar .shr .u64 (.var 22 0 18446744073709551615) (.lit 16)) (.lit 256)) (.lit 8)) (.lit 4)) (.lit 1))) (.lit 1)) (.var 24 0 18446744073709551615) (.ar .rem .u64 (.var 34 0 18446744073709551615) (.lit 18014398509481984)))), false), ((.eq (.var 32 0 255) (.lit 3)), true), ((.eq (.var 32 0 255) (.lit 2)), false), ((.eq (.var 32 0 255) (.lit 1)), false), ((.eq (.var 32 0 255) (.lit 0)), false), ((.eq (.var 31 0 65535) (.lit 945)), true), ((.eq (.var 31 0 65535) (.lit 944)), false), ((.lt (.var 31 0 65535) (.lit 952)), true), ((.lt (.var 31 0 65535) (.lit 944)), false), ((.lt (.var 31 0 65535) (.lit 928)), false), ((.lt (.var 31 0 65535) (.lit 768)), false), ((.lt (.var 31 0 65535) (.lit 512)), false), ((.lt (.var 31 0 65535) (.lit 256)), false)]
def exc25 : List Pc := [exc25_0]
theorem exc25_0_no : refute exc25_0 = true := by kernel_rfl
theorem exc25_no : ∀ q ∈ exc25, ∀ i, ¬ Holds i q :=
  List.forall_mem_cons.2 ⟨refute_ok exc25_0_no, (fun p h => by cases h)⟩
theorem start25_yes : startYes Tryd.prog (tabGlob tabs) lawEv 1645504557321206042154969182557350504982735865633579863348608300 lawBody lawFn 3 100000 places25 exc25 (psV lawPs 0) (stTab tabs lawPc25) = true := by kernel_rfl
theorem places25_yes : ∀ p ∈ places25, placeYes Tryd.prog (tabGlob tabs) lawEv 1645504557321206042154969182557350504982735865633579863348608300 lawBody lawFn 3 100000 places25 exc25 p = true :=
  (fun p h => by cases h)
theorem places25_paths : ∀ p ∈ places25, pathsOk p.stk :=
  (fun p h => by cases h)
def places37 : List Sx.Place := []
def lawPc37 : Pc := [((.eq (.var 32 0 255) (.lit 0)), true), ((.eq (.var 31 0 65535) (.lit 948)), true), ((.eq (.var 31 0 65535) (.lit 947)), false), ((.eq (.var 31 0 65535) (.lit 946)), false), ((.eq (.var 31 0 65535) (.lit 945)), false), ((.eq (.var 31 0 65535) (.lit 944)), false), ((.lt (.var 31 0 65535) (.lit 952)), true), ((.lt (.var 31 0 65535) (.lit 944)), false), ((.lt (.var 31 0 65535) (.lit 928)), false), ((.lt (.var 31 0 65535) (.lit 768)), false), ((.lt (.var 31 0 65535) (.lit 512)), false), ((.lt (.var 31 0 65535) (.lit 256)), false)]
def exc37 : List Pc := []
theorem exc37_no : ∀ q ∈ exc37, ∀ i, ¬ Holds i q :=
  (fun p h => by cases h)
theorem start37_yes : startYes Tryd.prog (tabGlob tabs) lawEv 1645504557321206042154969182557350504982735865633579863348608300 lawBody lawFn 3 100000 places37 exc37 (psV lawPs 0) (stTab tabs lawPc37) = true := by kernel_rfl
theorem places37_yes : ∀ p ∈ places37, placeYes Tryd.prog (tabGlob tabs) lawEv 1645504557321206042154969182557350504982735865633579863348608300 lawBody lawFn 3 100000 places37 exc37 p = true :=
  (fun p h => by cases h)
theorem places37_paths : ∀ p ∈ places37, pathsOk p.stk :=
  (fun p h => by cases h)
def places49 : List Sx.Place := []
def lawPc49 : Pc := [((.eq (.var 32 0 255) (.lit 2)), true), ((.eq (.var 32 0 255) (.lit 1)), false), ((.eq (.var 32 0 255) (.lit 0)), false), ((.eq (.var 31 0 65535) (.lit 950)), true), ((.eq (.var 31 0 65535) (.lit 949)), false), ((.eq (.var 31 0 65535) (.lit 948)), false), ((.eq (.var 31 0 65535) (.lit 947)), false), ((.eq (.var 31 0 65535) (.lit 946)), false), ((.eq (.var 31 0 65535) (.lit 945)), false), ((.eq (.var 31 0 65535) (.lit 944)), false), ((.lt (.var 31 0 65535) (.lit 952)), true), ((.lt (.var 31 0 65535) (.lit 944)), false), ((.lt (.var 31 0 65535) (.lit 928)), false), ((.lt (.var 31 0 65535) (.lit 768)), false), ((.lt (.var 31 0 65535) (.lit 512)), false), ((.lt (.var 31 0 65535) (.lit 256)), false)]
def exc49 : List Pc := []
theorem exc49_no : ∀ q ∈ exc49, ∀ i, ¬ Holds i q :=
  (fun p h => by cases h)
theorem start49_yes : startYes Tryd.prog (tabGlob tabs) lawEv 1645504557321206042154969182557350504982735865633579863348608300 lawBody lawFn 3 100000 places49 exc49 (psV lawPs 0) (stTab tabs lawPc49) = true := by kernel_rfl
theorem places49_yes : ∀ p ∈ places49, placeYes Tryd.prog (tabGlob tabs) lawEv 1645504557321206042154969182557350504982735865633579863348608300 lawBody lawFn 3 100000 places49 exc49 p = true :=
  (fun p h => by cases h)
theorem places49_paths : ∀ p ∈ places49, pathsOk p.stk :=
  (fun p h => by cases h)
def places61 : List Sx.Place := []
def lawPc61 : Pc := [((.eq (.var 32 0 255) (.lit 3)), false), ((.eq (.var 32 0 255) (.lit 2)), false), ((.eq (.var 32 0 255) (.lit 1)), false), ((.eq (.var 32 0 255) (.lit 0)), false), ((.lt (.var 31 0 65535) (.lit 952)), false), ((.lt (.var 31 0 65535) (.lit 944)), false), ((.lt (.var 31 0 65535) (.lit 928)), false), ((.lt (.var 31 0 65535) (.lit 768)), false), ((.lt (.var 31 0 65535) (.lit 512)), false), ((.lt (.var 31 0 65535) (.lit 256)), false)]
def exc61 : List Pc := []
theorem exc61_no : ∀ q ∈ exc61, ∀ i, ¬ Holds i q :=
  (fun p h => by cases h)
theorem start61_yes : startYes Tryd.prog (tabGlob tabs) lawEv 1645504557321206042154969182557350504982735865633579863348608300 lawBody lawFn 3 100000 places61 exc61 (psV lawPs 0) (stTab tabs lawPc61) = true := by kernel_rfl
theorem places61_yes : ∀ p ∈ places61, placeYes Tryd.prog (tabGlob tabs) lawEv 1645504557321206042154969182557350504982735865633579863348608300 lawBody lawFn 3 100000 places61 exc61 p = true :=
  (fun p h => by cases h)
theorem places61_paths : ∀ p ∈ places61, pathsOk p.stk :=
  (fun p h => by cases h)
end
end Go.Proofs.YtffhbmkpcenkoaaDoor.Sx
