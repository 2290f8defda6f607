/- RamHolds' body. -/
import Derived.Test.YtjdedgfbonlmkaaH1
import Derived.Test.YtjdedgfbonlmkaaH2
import Derived.Test.YtjdedgfbonlmkaaH3
import Derived.Test.YtjdedgfbonlmkaaH4
import Derived.Test.YtjdedgfbonlmkaaH5
import Derived.Test.YtjdedgfbonlmkaaH6
import Derived.Test.YtjdedgfbonlmkaaH7
set_option linter.unusedVariables false
set_option linter.unusedSimpArgs false
namespace Go.Proofs.Ytjdedgfbonlmkaa
open Go.RowKit
theorem holds_any (at0 : Nat) (v : Int) (hr0 : at0 < 18446744073709551616) (a : Option Addr) (len cap : Nat) (l : List Deed) (w : World) (hf : IsDeeds w a len l) : Calls Try.prog 6 #[.int .u64 at0, .int .i64 v, .slice a len cap] w (Yes w) := by
  by_cases h4 : v = 4
  · subst h4
    by_cases h1 : at0 < 4096
    · by_cases h2 : at0 % 4 = 0
      · exact holds_1 at0 hr0 h1 h2 a len cap l w hf
      · exact holds_5 at0 hr0 h1 h2 a len cap l w hf
    · exact holds_3 at0 hr0 h1 a len cap l w hf
  · by_cases h8 : v = 8
    · subst h8
      by_cases h1 : at0 < 4096
      · by_cases h2 : at0 % 8 = 0
        · exact holds_2 at0 hr0 h1 h2 a len cap l w hf
        · exact holds_6 at0 hr0 h1 h2 a len cap l w hf
      · exact holds_4 at0 hr0 h1 a len cap l w hf
    · exact holds_7 at0 v hr0 h4 h8 a len cap l w hf
end Go.Proofs.Ytjdedgfbonlmkaa
