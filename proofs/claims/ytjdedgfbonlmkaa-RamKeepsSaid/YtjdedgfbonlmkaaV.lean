/- RamKeeps' body, of any arguments. -/
import Derived.Test.YtjdedgfbonlmkaaTR
import Derived.Test.YtjdedgfbonlmkaaUN
import Derived.Test.YtjdedgfbonlmkaaU1
import Derived.Test.YtjdedgfbonlmkaaU2
import Derived.Test.YtjdedgfbonlmkaaU4
import Derived.Test.YtjdedgfbonlmkaaU8
namespace Go.Proofs.Ytjdedgfbonlmkaa
open Go.RowKit
theorem keeps_any (s : ByteArray) (a x o : Nat) (v : Int) (hx : x < 18446744073709551616) (w : World) : Calls Try.prog 5 #[.string s, .agg #[.int .u64 a, .int .u64 x, .int .i64 v, .int .u64 o]] w (Yes w) := by
  have RP := Lib.hid rpt
  by_cases hs : s.size ≤ 4096
  · by_cases hv : (v = 1 ∨ v = 2 ∨ v = 4 ∨ v = 8) ∧ (a : Int) + v ≤ 4096
    · obtain ⟨rfl | rfl | rfl | rfl, ha⟩ := hv
      all_goals by_cases ho : o < 4096
      · exact keeps_1_in RP s hs a x o 1 hx rfl (by omega) ho w
      · exact keeps_1_out RP s hs a x o 1 hx rfl (by omega) ho w
      · exact keeps_2_in RP s hs a x o 2 hx rfl (by omega) ho w
      · exact keeps_2_out RP s hs a x o 2 hx rfl (by omega) ho w
      · exact keeps_4_in RP s hs a x o 4 hx rfl (by omega) ho w
      · exact keeps_4_out RP s hs a x o 4 hx rfl (by omega) ho w
      · exact keeps_8_in RP s hs a x o 8 hx rfl (by omega) ho w
      · exact keeps_8_out RP s hs a x o 8 hx rfl (by omega) ho w
    · exact keeps_no RP s hs a x o v hx hv w
  · exact keeps_long s (by omega) a x o v w
end Go.Proofs.Ytjdedgfbonlmkaa
