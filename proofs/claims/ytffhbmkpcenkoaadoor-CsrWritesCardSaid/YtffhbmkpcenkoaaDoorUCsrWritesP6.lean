/- CsrWrites: a part of its cases. -/
import Derived.Test.YtffhbmkpcenkoaaDoorUCsrWrites
set_option linter.unusedVariables false
set_option linter.unusedSimpArgs false
namespace Go.Proofs.YtffhbmkpcenkoaaDoor.Sx
open Go
noncomputable section
set_option maxRecDepth 100000
def places6 : List Sx.Place := []
def lawPc6 : Pc := [((.lt (.var 31 0 65535) (.lit 768)), true), ((.lt (.var 31 0 65535) (.lit 512)), false), ((.lt (.var 31 0 65535) (.lit 256)), false)]
def exc6 : List Pc := []
theorem exc6_no : ∀ q ∈ exc6, ∀ i, ¬ Holds i q :=
  (fun p h => by cases h)
theorem start6_yes : startYes Tryd.prog (tabGlob tabs) lawEv 1645504557321206042154969182557350504982735865633579863348608300 lawBody lawFn 3 100000 places6 exc6 (psV lawPs 0) (stTab tabs lawPc6) = true := by kernel_rfl
theorem places6_yes : ∀ p ∈ places6, placeYes Tryd.prog (tabGlob tabs) lawEv 1645504557321206042154969182557350504982735865633579863348608300 lawBody lawFn 3 100000 places6 exc6 p = true :=
  (fun p h => by cases h)
theorem places6_paths : ∀ p ∈ places6, pathsOk p.stk :=
  (fun p h => by cases h)
def places18 : List Sx.Place := []
def lawPc18 : Pc := [((.eq (.var 32 0 255) (.lit 1)), true), ((.eq (.var 32 0 255) (.lit 0)), false), ((.eq (.var 31 0 65535) (.lit 944)), true), ((.lt (.var 31 0 65535) (.lit 952)), true), ((.lt (.var 31 0 65535) (.lit 944)), false), ((.lt (.var 31 0 65535) (.lit 928)), false), ((.lt (.var 31 0 65535) (.lit 768)), false), ((.lt (.var 31 0 65535) (.lit 512)), false), ((.lt (.var 31 0 65535) (.lit 256)), false)]
def exc18 : List Pc := []
theorem exc18_no : ∀ q ∈ exc18, ∀ i, ¬ Holds i q :=
  (fun p h => by cases h)
theorem start18_yes : startYes Tryd.prog (tabGlob tabs) lawEv 1645504557321206042154969182557350504982735865633579863348608300 lawBody lawFn 3 100000 places18 exc18 (psV lawPs 0) (stTab tabs lawPc18) = true := by kernel_rfl
theorem places18_yes : ∀ p ∈ places18, placeYes Tryd.prog (tabGlob tabs) lawEv 1645504557321206042154969182557350504982735865633579863348608300 lawBody lawFn 3 100000 places18 exc18 p = true :=
  (fun p h => by cases h)
theorem places18_paths : ∀ p ∈ places18, pathsOk p.stk :=
  (fun p h => by cases h)
def places30 : List Sx.Place := []
def lawPc30 : Pc := [((.eq (.var 32 0 255) (.lit 3)), true), ((.eq (.var 32 0 255) (.lit 2)), false), ((.eq (.var 32 0 255) (.lit 1)), false), ((.eq (.var 32 0 255) (.lit 0)), false), ((.eq (.var 31 0 65535) (.lit 946)), true), ((.eq (.var 31 0 65535) (.lit 945)), false), ((.eq (.var 31 0 65535) (.lit 944)), false), ((.lt (.var 31 0 65535) (.lit 952)), true), ((.lt (.var 31 0 65535) (.lit 944)), false), ((.lt (.var 31 0 65535) (.lit 928)), false), ((.lt (.var 31 0 65535) (.lit 768)), false), ((.lt (.var 31 0 65535) (.lit 512)), false), ((.lt (.var 31 0 65535) (.lit 256)), false)]
def exc30_0 : Pc := [((.eq (.ite (.ite (.eq (.ar .and .u64 (.ar .shr .u64 (.var 22 0 18446744073709551615) (.lit 16)) (.lit 128)) (.lit 0)) (.ite (.eq (.ar .and .u64 (.ar .shr .u64 (.ar .shr .u64 (.var 22 0 18446744073709551615) (.lit 16)) (.lit 8)) (.lit 128)) (.lit 0)) (.lit 1) (.not (.eq (.ar .and .u64 (.ar .shr .u64 (.ar .shr .u64 (.var 22 0 18446744073709551615) (.lit 16)) (.lit 8)) (.lit 24)) (.lit 8)))) (.lit 0)) (.ar .and .u64 (.var 34 0 18446744073709551615) (.lit 18014398509481983)) (.var 25 0 18446744073709551615)) (.ite (.ite (.lt (.ar .rem .u64 (.ar .shr .u64 (.var 22 0 18446744073709551615) (.lit 16)) (.lit 256)) (.lit 128)) (.ite (.lt (.ar .rem .u64 (.ar .shr .u64 (.var 22 0 18446744073709551615) (.lit 24)) (.lit 256)) (.lit 128)) (.lit 0) (.eq (.ar .rem .u64 (.ar .quo .u64 (.ar .rem .u64 (.ar .shr .u64 (.var 22 0 18446744073709551615) (.lit 24)) (.lit 256)) (.lit 8)) (.lit 4)) (.lit 1))) (.lit 1)) (.var 25 0 18446744073709551615) (.ar .rem .u64 (.var 34 0 18446744073709551615) (.lit 18014398509481984)))), false), ((.eq (.var 32 0 255) (.lit 3)), true), ((.eq (.var 32 0 255) (.lit 2)), false), ((.eq (.var 32 0 255) (.lit 1)), false), ((.eq (.var 32 0 255) (.lit 0)), false), ((.eq (.var 31 0 65535) (.lit 946)), true), ((.eq (.var 31 0 65535) (.lit 945)), false), ((.eq (.var 31 0 65535) (.lit 944)), false), ((.lt (.var 31 0 65535) (.lit 952)), true), ((.lt (.var 31 0 65535) (.lit 944)), false), ((.lt (.var 31 0 65535) (.lit 928)), false), ((.lt (.var 31 0 65535) (.lit 768)), false), ((.lt (.var 31 0 65535) (.lit 512)), false), ((.lt (.var 31 0 65535) (.lit 256)), false)]
def exc30 : List Pc := [exc30_0]
theorem exc30_0_no : refute exc30_0 = true := by kernel_rfl
theorem exc30_no : ∀ q ∈ exc30, ∀ i, ¬ Holds i q :=
  List.forall_mem_cons.2 ⟨refute_ok exc30_0_no, (fun p h => by cases h)⟩
theorem start30_yes : startYes Tryd.prog (tabGlob tabs) lawEv 1645504557321206042154969182557350504982735865633579863348608300 lawBody lawFn 3 100000 places30 exc30 (psV lawPs 0) (stTab tabs lawPc30) = true := by kernel_rfl
theorem places30_yes : ∀ p ∈ places30, placeYes Tryd.prog (tabGlob tabs) lawEv 1645504557321206042154969182557350504982735865633579863348608300 lawBody lawFn 3 100000 places30 exc30 p = true :=
  (fun p h => by cases h)
theorem places30_paths : ∀ p ∈ places30, pathsOk p.stk :=
  (fun p h => by cases h)
def places42 : List Sx.Place := []
def lawPc42 : Pc := [((.eq (.var 32 0 255) (.lit 0)), true), ((.eq (.var 31 0 65535) (.lit 949)), true), ((.eq (.var 31 0 65535) (.lit 948)), false), ((.eq (.var 31 0 65535) (.lit 947)), false), ((.eq (.var 31 0 65535) (.lit 946)), false), ((.eq (.var 31 0 65535) (.lit 945)), false), ((.eq (.var 31 0 65535) (.lit 944)), false), ((.lt (.var 31 0 65535) (.lit 952)), true), ((.lt (.var 31 0 65535) (.lit 944)), false), ((.lt (.var 31 0 65535) (.lit 928)), false), ((.lt (.var 31 0 65535) (.lit 768)), false), ((.lt (.var 31 0 65535) (.lit 512)), false), ((.lt (.var 31 0 65535) (.lit 256)), false)]
def exc42 : List Pc := []
theorem exc42_no : ∀ q ∈ exc42, ∀ i, ¬ Holds i q :=
  (fun p h => by cases h)
theorem start42_yes : startYes Tryd.prog (tabGlob tabs) lawEv 1645504557321206042154969182557350504982735865633579863348608300 lawBody lawFn 3 100000 places42 exc42 (psV lawPs 0) (stTab tabs lawPc42) = true := by kernel_rfl
theorem places42_yes : ∀ p ∈ places42, placeYes Tryd.prog (tabGlob tabs) lawEv 1645504557321206042154969182557350504982735865633579863348608300 lawBody lawFn 3 100000 places42 exc42 p = true :=
  (fun p h => by cases h)
theorem places42_paths : ∀ p ∈ places42, pathsOk p.stk :=
  (fun p h => by cases h)
def places54 : List Sx.Place := []
def lawPc54 : Pc := [((.eq (.var 32 0 255) (.lit 2)), true), ((.eq (.var 32 0 255) (.lit 1)), false), ((.eq (.var 32 0 255) (.lit 0)), false), ((.eq (.var 31 0 65535) (.lit 950)), false), ((.eq (.var 31 0 65535) (.lit 949)), false), ((.eq (.var 31 0 65535) (.lit 948)), false), ((.eq (.var 31 0 65535) (.lit 947)), false), ((.eq (.var 31 0 65535) (.lit 946)), false), ((.eq (.var 31 0 65535) (.lit 945)), false), ((.eq (.var 31 0 65535) (.lit 944)), false), ((.lt (.var 31 0 65535) (.lit 952)), true), ((.lt (.var 31 0 65535) (.lit 944)), false), ((.lt (.var 31 0 65535) (.lit 928)), false), ((.lt (.var 31 0 65535) (.lit 768)), false), ((.lt (.var 31 0 65535) (.lit 512)), false), ((.lt (.var 31 0 65535) (.lit 256)), false)]
def exc54 : List Pc := []
theorem exc54_no : ∀ q ∈ exc54, ∀ i, ¬ Holds i q :=
  (fun p h => by cases h)
theorem start54_yes : startYes Tryd.prog (tabGlob tabs) lawEv 1645504557321206042154969182557350504982735865633579863348608300 lawBody lawFn 3 100000 places54 exc54 (psV lawPs 0) (stTab tabs lawPc54) = true := by kernel_rfl
theorem places54_yes : ∀ p ∈ places54, placeYes Tryd.prog (tabGlob tabs) lawEv 1645504557321206042154969182557350504982735865633579863348608300 lawBody lawFn 3 100000 places54 exc54 p = true :=
  (fun p h => by cases h)
theorem places54_paths : ∀ p ∈ places54, pathsOk p.stk :=
  (fun p h => by cases h)
end
end Go.Proofs.YtffhbmkpcenkoaaDoor.Sx
