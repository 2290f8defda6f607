/- CsrWrites: a part of its cases. -/
import Derived.Test.YtffhbmkpcenkoaaDoorUCsrWrites
set_option linter.unusedVariables false
set_option linter.unusedSimpArgs false
namespace Go.Proofs.YtffhbmkpcenkoaaDoor.Sx
open Go
noncomputable section
set_option maxRecDepth 100000
def places8 : List Sx.Place := []
def lawPc8 : Pc := [((.eq (.var 32 0 255) (.lit 1)), true), ((.eq (.var 32 0 255) (.lit 0)), false), ((.lt (.var 31 0 65535) (.lit 928)), true), ((.lt (.var 31 0 65535) (.lit 768)), false), ((.lt (.var 31 0 65535) (.lit 512)), false), ((.lt (.var 31 0 65535) (.lit 256)), false)]
def exc8 : List Pc := []
theorem exc8_no : ∀ q ∈ exc8, ∀ i, ¬ Holds i q :=
  (fun p h => by cases h)
theorem start8_yes : startYes Tryd.prog (tabGlob tabs) lawEv 1645504557321206042154969182557350504982735865633579863348608300 lawBody lawFn 3 100000 places8 exc8 (psV lawPs 0) (stTab tabs lawPc8) = true := by kernel_rfl
theorem places8_yes : ∀ p ∈ places8, placeYes Tryd.prog (tabGlob tabs) lawEv 1645504557321206042154969182557350504982735865633579863348608300 lawBody lawFn 3 100000 places8 exc8 p = true :=
  (fun p h => by cases h)
theorem places8_paths : ∀ p ∈ places8, pathsOk p.stk :=
  (fun p h => by cases h)
def places20 : List Sx.Place := []
def lawPc20 : Pc := [((.eq (.var 32 0 255) (.lit 3)), true), ((.eq (.var 32 0 255) (.lit 2)), false), ((.eq (.var 32 0 255) (.lit 1)), false), ((.eq (.var 32 0 255) (.lit 0)), false), ((.eq (.var 31 0 65535) (.lit 944)), true), ((.lt (.var 31 0 65535) (.lit 952)), true), ((.lt (.var 31 0 65535) (.lit 944)), false), ((.lt (.var 31 0 65535) (.lit 928)), false), ((.lt (.var 31 0 65535) (.lit 768)), false), ((.lt (.var 31 0 65535) (.lit 512)), false), ((.lt (.var 31 0 65535) (.lit 256)), false)]
def exc20_0 : Pc := [((.eq (.ite (.ite (.eq (.ar .and .u64 (.var 22 0 18446744073709551615) (.lit 128)) (.lit 0)) (.ite (.eq (.ar .and .u64 (.ar .shr .u64 (.var 22 0 18446744073709551615) (.lit 8)) (.lit 128)) (.lit 0)) (.lit 1) (.not (.eq (.ar .and .u64 (.ar .shr .u64 (.var 22 0 18446744073709551615) (.lit 8)) (.lit 24)) (.lit 8)))) (.lit 0)) (.ar .and .u64 (.var 34 0 18446744073709551615) (.lit 18014398509481983)) (.var 23 0 18446744073709551615)) (.ite (.ite (.lt (.ar .rem .u64 (.var 22 0 18446744073709551615) (.lit 256)) (.lit 128)) (.ite (.lt (.ar .rem .u64 (.ar .shr .u64 (.var 22 0 18446744073709551615) (.lit 8)) (.lit 256)) (.lit 128)) (.lit 0) (.eq (.ar .rem .u64 (.ar .quo .u64 (.ar .rem .u64 (.ar .shr .u64 (.var 22 0 18446744073709551615) (.lit 8)) (.lit 256)) (.lit 8)) (.lit 4)) (.lit 1))) (.lit 1)) (.var 23 0 18446744073709551615) (.ar .rem .u64 (.var 34 0 18446744073709551615) (.lit 18014398509481984)))), false), ((.eq (.var 32 0 255) (.lit 3)), true), ((.eq (.var 32 0 255) (.lit 2)), false), ((.eq (.var 32 0 255) (.lit 1)), false), ((.eq (.var 32 0 255) (.lit 0)), false), ((.eq (.var 31 0 65535) (.lit 944)), true), ((.lt (.var 31 0 65535) (.lit 952)), true), ((.lt (.var 31 0 65535) (.lit 944)), false), ((.lt (.var 31 0 65535) (.lit 928)), false), ((.lt (.var 31 0 65535) (.lit 768)), false), ((.lt (.var 31 0 65535) (.lit 512)), false), ((.lt (.var 31 0 65535) (.lit 256)), false)]
def exc20 : List Pc := [exc20_0]
theorem exc20_0_no : refute exc20_0 = true := by kernel_rfl
theorem exc20_no : ∀ q ∈ exc20, ∀ i, ¬ Holds i q :=
  List.forall_mem_cons.2 ⟨refute_ok exc20_0_no, (fun p h => by cases h)⟩
theorem start20_yes : startYes Tryd.prog (tabGlob tabs) lawEv 1645504557321206042154969182557350504982735865633579863348608300 lawBody lawFn 3 100000 places20 exc20 (psV lawPs 0) (stTab tabs lawPc20) = true := by kernel_rfl
theorem places20_yes : ∀ p ∈ places20, placeYes Tryd.prog (tabGlob tabs) lawEv 1645504557321206042154969182557350504982735865633579863348608300 lawBody lawFn 3 100000 places20 exc20 p = true :=
  (fun p h => by cases h)
theorem places20_paths : ∀ p ∈ places20, pathsOk p.stk :=
  (fun p h => by cases h)
def places32 : List Sx.Place := []
def lawPc32 : Pc := [((.eq (.var 32 0 255) (.lit 0)), true), ((.eq (.var 31 0 65535) (.lit 947)), true), ((.eq (.var 31 0 65535) (.lit 946)), false), ((.eq (.var 31 0 65535) (.lit 945)), false), ((.eq (.var 31 0 65535) (.lit 944)), false), ((.lt (.var 31 0 65535) (.lit 952)), true), ((.lt (.var 31 0 65535) (.lit 944)), false), ((.lt (.var 31 0 65535) (.lit 928)), false), ((.lt (.var 31 0 65535) (.lit 768)), false), ((.lt (.var 31 0 65535) (.lit 512)), false), ((.lt (.var 31 0 65535) (.lit 256)), false)]
def exc32 : List Pc := []
theorem exc32_no : ∀ q ∈ exc32, ∀ i, ¬ Holds i q :=
  (fun p h => by cases h)
theorem start32_yes : startYes Tryd.prog (tabGlob tabs) lawEv 1645504557321206042154969182557350504982735865633579863348608300 lawBody lawFn 3 100000 places32 exc32 (psV lawPs 0) (stTab tabs lawPc32) = true := by kernel_rfl
theorem places32_yes : ∀ p ∈ places32, placeYes Tryd.prog (tabGlob tabs) lawEv 1645504557321206042154969182557350504982735865633579863348608300 lawBody lawFn 3 100000 places32 exc32 p = true :=
  (fun p h => by cases h)
theorem places32_paths : ∀ p ∈ places32, pathsOk p.stk :=
  (fun p h => by cases h)
def places44 : List Sx.Place := []
def lawPc44 : Pc := [((.eq (.var 32 0 255) (.lit 2)), true), ((.eq (.var 32 0 255) (.lit 1)), false), ((.eq (.var 32 0 255) (.lit 0)), false), ((.eq (.var 31 0 65535) (.lit 949)), true), ((.eq (.var 31 0 65535) (.lit 948)), false), ((.eq (.var 31 0 65535) (.lit 947)), false), ((.eq (.var 31 0 65535) (.lit 946)), false), ((.eq (.var 31 0 65535) (.lit 945)), false), ((.eq (.var 31 0 65535) (.lit 944)), false), ((.lt (.var 31 0 65535) (.lit 952)), true), ((.lt (.var 31 0 65535) (.lit 944)), false), ((.lt (.var 31 0 65535) (.lit 928)), false), ((.lt (.var 31 0 65535) (.lit 768)), false), ((.lt (.var 31 0 65535) (.lit 512)), false), ((.lt (.var 31 0 65535) (.lit 256)), false)]
def exc44 : List Pc := []
theorem exc44_no : ∀ q ∈ exc44, ∀ i, ¬ Holds i q :=
  (fun p h => by cases h)
theorem start44_yes : startYes Tryd.prog (tabGlob tabs) lawEv 1645504557321206042154969182557350504982735865633579863348608300 lawBody lawFn 3 100000 places44 exc44 (psV lawPs 0) (stTab tabs lawPc44) = true := by kernel_rfl
theorem places44_yes : ∀ p ∈ places44, placeYes Tryd.prog (tabGlob tabs) lawEv 1645504557321206042154969182557350504982735865633579863348608300 lawBody lawFn 3 100000 places44 exc44 p = true :=
  (fun p h => by cases h)
theorem places44_paths : ∀ p ∈ places44, pathsOk p.stk :=
  (fun p h => by cases h)
def places56 : List Sx.Place := []
def lawPc56 : Pc := [((.eq (.var 32 0 255) (.lit 3)), false), ((.eq (.var 32 0 255) (.lit 2)), false), ((.eq (.var 32 0 255) (.lit 1)), false), ((.eq (.var 32 0 255) (.lit 0)), false), ((.eq (.var 31 0 65535) (.lit 950)), false), ((.eq (.var 31 0 65535) (.lit 949)), false), ((.eq (.var 31 0 65535) (.lit 948)), false), ((.eq (.var 31 0 65535) (.lit 947)), false), ((.eq (.var 31 0 65535) (.lit 946)), false), ((.eq (.var 31 0 65535) (.lit 945)), false), ((.eq (.var 31 0 65535) (.lit 944)), false), ((.lt (.var 31 0 65535) (.lit 952)), true), ((.lt (.var 31 0 65535) (.lit 944)), false), ((.lt (.var 31 0 65535) (.lit 928)), false), ((.lt (.var 31 0 65535) (.lit 768)), false), ((.lt (.var 31 0 65535) (.lit 512)), false), ((.lt (.var 31 0 65535) (.lit 256)), false)]
def exc56 : List Pc := []
theorem exc56_no : ∀ q ∈ exc56, ∀ i, ¬ Holds i q :=
  (fun p h => by cases h)
theorem start56_yes : startYes Tryd.prog (tabGlob tabs) lawEv 1645504557321206042154969182557350504982735865633579863348608300 lawBody lawFn 3 100000 places56 exc56 (psV lawPs 0) (stTab tabs lawPc56) = true := by kernel_rfl
theorem places56_yes : ∀ p ∈ places56, placeYes Tryd.prog (tabGlob tabs) lawEv 1645504557321206042154969182557350504982735865633579863348608300 lawBody lawFn 3 100000 places56 exc56 p = true :=
  (fun p h => by cases h)
theorem places56_paths : ∀ p ∈ places56, pathsOk p.stk :=
  (fun p h => by cases h)
end
end Go.Proofs.YtffhbmkpcenkoaaDoor.Sx
