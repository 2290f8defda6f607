/- PmpBytes: of any width. -/
import Derived.Test.YtcgklflflfemnaaDoorPi
import Derived.Test.YtcgklflflfemnaaDoorPj
set_option linter.unusedVariables false
set_option linter.unusedSimpArgs false
namespace Go.Proofs.YtcgklflflfemnaaDoor
open Go.RowKit
theorem bytes_any {W w : World} (hT : TzIs W) (hW : Below W.heap.size W w) (c : Nat) (A : Nat → Nat) (mode kind at' : Nat) (z : Int) (hc : c < 18446744073709551616) (hA : ∀ k, A k < 18446744073709551616) (ha : at' < 18446744073709551616) (hz0 : -9223372036854775808 ≤ z) (hz1 : z ≤ 9223372036854775807) :
    Calls Tryd.prog 5 #[.int .u64 c, .agg (arr A), acc mode kind at' z] w (Yes w) := by
  by_cases h1 : z < 1
  · exact bytes_low hT hW c A mode kind at' hc hA ha z hz0 h1
  · by_cases h2 : 16 < z
    · exact bytes_high hT hW c A mode kind at' hc hA ha z hz1 h2
    · obtain ⟨n, rfl⟩ : ∃ n : Nat, z = n := ⟨z.toNat, by omega⟩
      exact bytes_mid hT hW c A mode kind at' hc hA ha n (by omega) (by omega)
end Go.Proofs.YtcgklflflfemnaaDoor
