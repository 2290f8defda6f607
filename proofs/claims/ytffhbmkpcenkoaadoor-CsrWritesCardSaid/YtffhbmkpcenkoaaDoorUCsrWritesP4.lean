/- CsrWrites: a part of its cases. -/
import Derived.Test.YtffhbmkpcenkoaaDoorUCsrWrites
set_option linter.unusedVariables false
set_option linter.unusedSimpArgs false
namespace Go.Proofs.YtffhbmkpcenkoaaDoor.Sx
open Go
noncomputable section
set_option maxRecDepth 100000
def places4 : List Sx.Place := []
def lawPc4 : Pc := [((.eq (.var 32 0 255) (.lit 3)), true), ((.eq (.var 32 0 255) (.lit 2)), false), ((.eq (.var 32 0 255) (.lit 1)), false), ((.eq (.var 32 0 255) (.lit 0)), false), ((.lt (.var 31 0 65535) (.lit 512)), true), ((.lt (.var 31 0 65535) (.lit 256)), false)]
def exc4_0 : Pc := [((.eq (.ar .or .u64 (.ar .andNot .u64 (.var 1 0 18446744073709551615) (.lit 786722)) (.ar .and .u64 (.var 34 0 18446744073709551615) (.lit 786722))) (.ar .add .u64 (.ar .sub .u64 (.var 1 0 18446744073709551615) (.ar .and .u64 (.var 1 0 18446744073709551615) (.lit 786722))) (.ar .and .u64 (.var 34 0 18446744073709551615) (.lit 786722)))), false), ((.eq (.var 31 0 65535) (.lit 256)), true), ((.eq (.ar .shr .u16 (.var 31 0 65535) (.lit 8)) (.lit 1)), true), ((.eq (.var 32 0 255) (.lit 3)), true), ((.eq (.var 32 0 255) (.lit 2)), false), ((.eq (.var 32 0 255) (.lit 1)), false), ((.eq (.var 32 0 255) (.lit 0)), false), ((.lt (.var 31 0 65535) (.lit 512)), true), ((.lt (.var 31 0 65535) (.lit 256)), false)]
def exc4_1 : Pc := [((.eq (.ar .or .u64 (.ar .andNot .u64 (.var 2 0 18446744073709551615) (.var 6 0 18446744073709551615)) (.ar .and .u64 (.var 34 0 18446744073709551615) (.var 6 0 18446744073709551615))) (.ar .add .u64 (.ar .sub .u64 (.var 2 0 18446744073709551615) (.ar .and .u64 (.var 2 0 18446744073709551615) (.var 6 0 18446744073709551615))) (.ar .and .u64 (.var 34 0 18446744073709551615) (.var 6 0 18446744073709551615)))), false), ((.eq (.var 31 0 65535) (.lit 260)), true), ((.eq (.var 31 0 65535) (.lit 256)), false), ((.eq (.ar .shr .u16 (.var 31 0 65535) (.lit 8)) (.lit 1)), true), ((.eq (.var 32 0 255) (.lit 3)), true), ((.eq (.var 32 0 255) (.lit 2)), false), ((.eq (.var 32 0 255) (.lit 1)), false), ((.eq (.var 32 0 255) (.lit 0)), false), ((.lt (.var 31 0 65535) (.lit 512)), true), ((.lt (.var 31 0 65535) (.lit 256)), false)]
def exc4_2 : Pc := [((.eq (.ar .and .u64 (.var 34 0 18446744073709551615) (.lit 18446744073709551613)) (.ar .sub .u64 (.var 34 0 18446744073709551615) (.ar .and .u64 (.var 34 0 18446744073709551615) (.lit 2)))), false), ((.eq (.var 31 0 65535) (.lit 261)), true), ((.eq (.var 31 0 65535) (.lit 260)), false), ((.eq (.var 31 0 65535) (.lit 256)), false), ((.eq (.ar .shr .u16 (.var 31 0 65535) (.lit 8)) (.lit 1)), true), ((.eq (.var 32 0 255) (.lit 3)), true), ((.eq (.var 32 0 255) (.lit 2)), false), ((.eq (.var 32 0 255) (.lit 1)), false), ((.eq (.var 32 0 255) (.lit 0)), false), ((.lt (.var 31 0 65535) (.lit 512)), true), ((.lt (.var 31 0 65535) (.lit 256)), false)]
def exc4_3 : Pc := [((.eq (.ar .and .u64 (.var 34 0 18446744073709551615) (.lit 18446744073709551614)) (.ar .sub .u64 (.var 34 0 18446744073709551615) (.ar .rem .u64 (.var 34 0 18446744073709551615) (.lit 2)))), false), ((.eq (.var 31 0 65535) (.lit 321)), true), ((.eq (.var 31 0 65535) (.lit 320)), false), ((.eq (.var 31 0 65535) (.lit 262)), false), ((.eq (.var 31 0 65535) (.lit 261)), false), ((.eq (.var 31 0 65535) (.lit 260)), false), ((.eq (.var 31 0 65535) (.lit 256)), false), ((.eq (.ar .shr .u16 (.var 31 0 65535) (.lit 8)) (.lit 1)), true), ((.eq (.var 32 0 255) (.lit 3)), true), ((.eq (.var 32 0 255) (.lit 2)), false), ((.eq (.var 32 0 255) (.lit 1)), false), ((.eq (.var 32 0 255) (.lit 0)), false), ((.lt (.var 31 0 65535) (.lit 512)), true), ((.lt (.var 31 0 65535) (.lit 256)), false)]
def exc4_4 : Pc := [((.eq (.ar .or .u64 (.ar .andNot .u64 (.var 3 0 18446744073709551615) (.ar .and .u64 (.var 6 0 18446744073709551615) (.lit 2))) (.ar .and .u64 (.var 34 0 18446744073709551615) (.ar .and .u64 (.var 6 0 18446744073709551615) (.lit 2)))) (.ar .add .u64 (.ar .sub .u64 (.var 3 0 18446744073709551615) (.ar .and .u64 (.var 3 0 18446744073709551615) (.ar .and .u64 (.var 6 0 18446744073709551615) (.lit 2)))) (.ar .and .u64 (.var 34 0 18446744073709551615) (.ar .and .u64 (.var 6 0 18446744073709551615) (.lit 2))))), false), ((.eq (.var 31 0 65535) (.lit 324)), true), ((.eq (.var 31 0 65535) (.lit 323)), false), ((.eq (.var 31 0 65535) (.lit 322)), false), ((.eq (.var 31 0 65535) (.lit 321)), false), ((.eq (.var 31 0 65535) (.lit 320)), false), ((.eq (.var 31 0 65535) (.lit 262)), false), ((.eq (.var 31 0 65535) (.lit 261)), false), ((.eq (.var 31 0 65535) (.lit 260)), false), ((.eq (.var 31 0 65535) (.lit 256)), false), ((.eq (.ar .shr .u16 (.var 31 0 65535) (.lit 8)) (.lit 1)), true), ((.eq (.var 32 0 255) (.lit 3)), true), ((.eq (.var 32 0 255) (.lit 2)), false), ((.eq (.var 32 0 255) (.lit 1)), false), ((.eq (.var 32 0 255) (.lit 0)), false), ((.lt (.var 31 0 65535) (.lit 512)), true), ((.lt (.var 31 0 65535) (.lit 256)), false)]
def exc4 : List Pc := [exc4_0, exc4_1, exc4_2, exc4_3, exc4_4]
theorem exc4_0_no : refute exc4_0 = true := by kernel_rfl
theorem exc4_1_no : refute exc4_1 = true := by kernel_rfl
theorem exc4_2_no : refute exc4_2 = true := by kernel_rfl
theorem exc4_3_no : refute exc4_3 = true := by kernel_rfl
theorem exc4_4_no : refute exc4_4 = true := by kernel_rfl
theorem exc4_no : ∀ q ∈ exc4, ∀ i, ¬ Holds i q :=
  List.forall_mem_cons.2 ⟨refute_ok exc4_0_no, List.forall_mem_cons.2 ⟨refute_ok exc4_1_no, List.forall_mem_cons.2 ⟨refute_ok exc4_2_no, List.forall_mem_cons.2 ⟨refute_ok exc4_3_no, List.forall_mem_cons.2 ⟨refute_ok exc4_4_no, (fun p h => by cases h)⟩⟩⟩⟩⟩
theorem start4_yes : startYes Tryd.prog (tabGlob tabs) lawEv 1645504557321206042154969182557350504982735865633579863348608300 lawBody lawFn 3 100000 places4 exc4 (psV lawPs 0) (stTab tabs lawPc4) = true := by kernel_rfl
theorem places4_yes : ∀ p ∈ places4, placeYes Tryd.prog (tabGlob tabs) lawEv 1645504557321206042154969182557350504982735865633579863348608300 lawBody lawFn 3 100000 places4 exc4 p = true :=
  (fun p h => by cases h)
theorem places4_paths : ∀ p ∈ places4, pathsOk p.stk :=
  (fun p h => by cases h)
def places16 : List Sx.Place := []
def lawPc16 : Pc := [((.eq (.var 32 0 255) (.lit 3)), false), ((.eq (.var 32 0 255) (.lit 2)), false), ((.eq (.var 32 0 255) (.lit 1)), false), ((.eq (.var 32 0 255) (.lit 0)), false), ((.lt (.var 31 0 65535) (.lit 944)), true), ((.lt (.var 31 0 65535) (.lit 928)), false), ((.lt (.var 31 0 65535) (.lit 768)), false), ((.lt (.var 31 0 65535) (.lit 512)), false), ((.lt (.var 31 0 65535) (.lit 256)), false)]
def exc16 : List Pc := []
theorem exc16_no : ∀ q ∈ exc16, ∀ i, ¬ Holds i q :=
  (fun p h => by cases h)
theorem start16_yes : startYes Tryd.prog (tabGlob tabs) lawEv 1645504557321206042154969182557350504982735865633579863348608300 lawBody lawFn 3 100000 places16 exc16 (psV lawPs 0) (stTab tabs lawPc16) = true := by kernel_rfl
theorem places16_yes : ∀ p ∈ places16, placeYes Tryd.prog (tabGlob tabs) lawEv 1645504557321206042154969182557350504982735865633579863348608300 lawBody lawFn 3 100000 places16 exc16 p = true :=
  (fun p h => by cases h)
theorem places16_paths : ∀ p ∈ places16, pathsOk p.stk :=
  (fun p h => by cases h)
def places28 : List Sx.Place := []
def lawPc28 : Pc := [((.eq (.var 32 0 255) (.lit 1)), true), ((.eq (.var 32 0 255) (.lit 0)), false), ((.eq (.var 31 0 65535) (.lit 946)), true), ((.eq (.var 31 0 65535) (.lit 945)), false), ((.eq (.var 31 0 65535) (.lit 944)), false), ((.lt (.var 31 0 65535) (.lit 952)), true), ((.lt (.var 31 0 65535) (.lit 944)), false), ((.lt (.var 31 0 65535) (.lit 928)), false), ((.lt (.var 31 0 65535) (.lit 768)), false), ((.lt (.var 31 0 65535) (.lit 512)), false), ((.lt (.var 31 0 65535) (.lit 256)), false)]
def exc28 : List Pc := []
theorem exc28_no : ∀ q ∈ exc28, ∀ i, ¬ Holds i q :=
  (fun p h => by cases h)
theorem start28_yes : startYes Tryd.prog (tabGlob tabs) lawEv 1645504557321206042154969182557350504982735865633579863348608300 lawBody lawFn 3 100000 places28 exc28 (psV lawPs 0) (stTab tabs lawPc28) = true := by kernel_rfl
theorem places28_yes : ∀ p ∈ places28, placeYes Tryd.prog (tabGlob tabs) lawEv 1645504557321206042154969182557350504982735865633579863348608300 lawBody lawFn 3 100000 places28 exc28 p = true :=
  (fun p h => by cases h)
theorem places28_paths : ∀ p ∈ places28, pathsOk p.stk :=
  (fun p h => by cases h)
def places40 : List Sx.Place := []
def lawPc40 : Pc := [((.eq (.var 32 0 255) (.lit 3)), true), ((.eq (.var 32 0 255) (.lit 2)), false), ((.eq (.var 32 0 255) (.lit 1)), false), ((.eq (.var 32 0 255) (.lit 0)), false), ((.eq (.var 31 0 65535) (.lit 948)), true), ((.eq (.var 31 0 65535) (.lit 947)), false), ((.eq (.var 31 0 65535) (.lit 946)), false), ((.eq (.var 31 0 65535) (.lit 945)), false), ((.eq (.var 31 0 65535) (.lit 944)), false), ((.lt (.var 31 0 65535) (.lit 952)), true), ((.lt (.var 31 0 65535) (.lit 944)), false), ((.lt (.var 31 0 65535) (.lit 928)), false), ((.lt (.var 31 0 65535) (.lit 768)), false), ((.lt (.var 31 0 65535) (.lit 512)), false), ((.lt (.var 31 0 65535) (.lit 256)), false)]
def exc40_0 : Pc := [((.eq (.ite (.ite (.eq (.ar .and .u64 (.ar .shr .u64 (.var 22 0 18446744073709551615) (.lit 32)) (.lit 128)) (.lit 0)) (.ite (.eq (.ar .and .u64 (.ar .shr .u64 (.ar .shr .u64 (.var 22 0 18446744073709551615) (.lit 32)) (.lit 8)) (.lit 128)) (.lit 0)) (.lit 1) (.not (.eq (.ar .and .u64 (.ar .shr .u64 (.ar .shr .u64 (.var 22 0 18446744073709551615) (.lit 32)) (.lit 8)) (.lit 24)) (.lit 8)))) (.lit 0)) (.ar .and .u64 (.var 34 0 18446744073709551615) (.lit 18014398509481983)) (.var 27 0 18446744073709551615)) (.ite (.ite (.lt (.ar .rem .u64 (.ar .shr .u64 (.var 22 0 18446744073709551615) (.lit 32)) (.lit 256)) (.lit 128)) (.ite (.lt (.ar .rem .u64 (.ar .shr .u64 (.var 22 0 18446744073709551615) (.lit 40)) (.lit 256)) (.lit 128)) (.lit 0) (.eq (.ar .rem .u64 (.ar .quo .u64 (.ar .rem .u64 (.ar .shr .u64 (.var 22 0 18446744073709551615) (.lit 40)) (.lit 256)) (.lit 8)) (.lit 4)) (.lit 1))) (.lit 1)) (.var 27 0 18446744073709551615) (.ar .rem .u64 (.var 34 0 18446744073709551615) (.lit 18014398509481984)))), false), ((.eq (.var 32 0 255) (.lit 3)), true), ((.eq (.var 32 0 255) (.lit 2)), false), ((.eq (.var 32 0 255) (.lit 1)), false), ((.eq (.var 32 0 255) (.lit 0)), false), ((.eq (.var 31 0 65535) (.lit 948)), true), ((.eq (.var 31 0 65535) (.lit 947)), false), ((.eq (.var 31 0 65535) (.lit 946)), false), ((.eq (.var 31 0 65535) (.lit 945)), false), ((.eq (.var 31 0 65535) (.lit 944)), false), ((.lt (.var 31 0 65535) (.lit 952)), true), ((.lt (.var 31 0 65535) (.lit 944)), false), ((.lt (.var 31 0 65535) (.lit 928)), false), ((.lt (.var 31 0 65535) (.lit 768)), false), ((.lt (.var 31 0 65535) (.lit 512)), false), ((.lt (.var 31 0 65535) (.lit 256)), false)]
def exc40 : List Pc := [exc40_0]
theorem exc40_0_no : refute exc40_0 = true := by kernel_rfl
theorem exc40_no : ∀ q ∈ exc40, ∀ i, ¬ Holds i q :=
  List.forall_mem_cons.2 ⟨refute_ok exc40_0_no, (fun p h => by cases h)⟩
theorem start40_yes : startYes Tryd.prog (tabGlob tabs) lawEv 1645504557321206042154969182557350504982735865633579863348608300 lawBody lawFn 3 100000 places40 exc40 (psV lawPs 0) (stTab tabs lawPc40) = true := by kernel_rfl
theorem places40_yes : ∀ p ∈ places40, placeYes Tryd.prog (tabGlob tabs) lawEv 1645504557321206042154969182557350504982735865633579863348608300 lawBody lawFn 3 100000 places40 exc40 p = true :=
  (fun p h => by cases h)
theorem places40_paths : ∀ p ∈ places40, pathsOk p.stk :=
  (fun p h => by cases h)
def places52 : List Sx.Place := []
def lawPc52 : Pc := [((.eq (.var 32 0 255) (.lit 0)), true), ((.eq (.var 31 0 65535) (.lit 950)), false), ((.eq (.var 31 0 65535) (.lit 949)), false), ((.eq (.var 31 0 65535) (.lit 948)), false), ((.eq (.var 31 0 65535) (.lit 947)), false), ((.eq (.var 31 0 65535) (.lit 946)), false), ((.eq (.var 31 0 65535) (.lit 945)), false), ((.eq (.var 31 0 65535) (.lit 944)), false), ((.lt (.var 31 0 65535) (.lit 952)), true), ((.lt (.var 31 0 65535) (.lit 944)), false), ((.lt (.var 31 0 65535) (.lit 928)), false), ((.lt (.var 31 0 65535) (.lit 768)), false), ((.lt (.var 31 0 65535) (.lit 512)), false), ((.lt (.var 31 0 65535) (.lit 256)), false)]
def exc52 : List Pc := []
theorem exc52_no : ∀ q ∈ exc52, ∀ i, ¬ Holds i q :=
  (fun p h => by cases h)
theorem start52_yes : startYes Tryd.prog (tabGlob tabs) lawEv 1645504557321206042154969182557350504982735865633579863348608300 lawBody lawFn 3 100000 places52 exc52 (psV lawPs 0) (stTab tabs lawPc52) = true := by kernel_rfl
theorem places52_yes : ∀ p ∈ places52, placeYes Tryd.prog (tabGlob tabs) lawEv 1645504557321206042154969182557350504982735865633579863348608300 lawBody lawFn 3 100000 places52 exc52 p = true :=
  (fun p h => by cases h)
theorem places52_paths : ∀ p ∈ places52, pathsOk p.stk :=
  (fun p h => by cases h)
end
end Go.Proofs.YtffhbmkpcenkoaaDoor.Sx
