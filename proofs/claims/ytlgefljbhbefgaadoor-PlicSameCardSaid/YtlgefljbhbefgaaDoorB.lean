/- A PLIC's cells. -/
import Derived.Test.YtlgefljbhbefgaaDoorA
set_option linter.unusedVariables false
set_option linter.unusedSimpArgs false
namespace Go.Proofs.YtlgefljbhbefgaaDoor
open Go.RowKit
/-- The cells of a PLIC. -/
def plc (s : PS) : Array Value := #[.bool true, .int .u8 (s.pr 0), .bool (s.hi 0), .bool (s.pe 0), .bool (s.se 0), .int .u8 (s.pr 1), .bool (s.hi 1), .bool (s.pe 1), .bool (s.se 1), .int .u8 (s.pr 2), .bool (s.hi 2), .bool (s.pe 2), .bool (s.se 2), .int .u8 (s.pr 3), .bool (s.hi 3), .bool (s.pe 3), .bool (s.se 3), .int .u8 (s.pr 4), .bool (s.hi 4), .bool (s.pe 4), .bool (s.se 4), .int .u8 (s.pr 5), .bool (s.hi 5), .bool (s.pe 5), .bool (s.se 5), .int .u8 (s.pr 6), .bool (s.hi 6), .bool (s.pe 6), .bool (s.se 6), .int .u8 (s.pr 7), .bool (s.hi 7), .bool (s.pe 7), .bool (s.se 7), .int .u8 (s.en 0), .int .u8 (s.th 0), .int .u8 (s.en 1), .int .u8 (s.th 1)]
theorem pr_at (s : PS) : ∀ i : Nat, i < 8 → (plc s)[1 + i * 4]? = some (.int .u8 (s.pr i))
  | 0, _ => rfl
  | 1, _ => rfl
  | 2, _ => rfl
  | 3, _ => rfl
  | 4, _ => rfl
  | 5, _ => rfl
  | 6, _ => rfl
  | 7, _ => rfl
  | k + 8, h => absurd h (by omega)
theorem pr_put (s : PS) (x : Nat) : ∀ i : Nat, i < 8 → (plc s).setIfInBounds (1 + i * 4) (.int .u8 (x : Int)) = plc { s with pr := upd s.pr i x }
  | 0, _ => by kernel_rfl
  | 1, _ => by kernel_rfl
  | 2, _ => by kernel_rfl
  | 3, _ => by kernel_rfl
  | 4, _ => by kernel_rfl
  | 5, _ => by kernel_rfl
  | 6, _ => by kernel_rfl
  | 7, _ => by kernel_rfl
  | k + 8, h => absurd h (by omega)
theorem hi_at (s : PS) : ∀ i : Nat, i < 8 → (plc s)[1 + i * 4 + 1]? = some (.bool (s.hi i))
  | 0, _ => rfl
  | 1, _ => rfl
  | 2, _ => rfl
  | 3, _ => rfl
  | 4, _ => rfl
  | 5, _ => rfl
  | 6, _ => rfl
  | 7, _ => rfl
  | k + 8, h => absurd h (by omega)
theorem hi_put (s : PS) (x : Bool) : ∀ i : Nat, i < 8 → (plc s).setIfInBounds (1 + i * 4 + 1) (.bool x) = plc { s with hi := upd s.hi i x }
  | 0, _ => by kernel_rfl
  | 1, _ => by kernel_rfl
  | 2, _ => by kernel_rfl
  | 3, _ => by kernel_rfl
  | 4, _ => by kernel_rfl
  | 5, _ => by kernel_rfl
  | 6, _ => by kernel_rfl
  | 7, _ => by kernel_rfl
  | k + 8, h => absurd h (by omega)
theorem pe_at (s : PS) : ∀ i : Nat, i < 8 → (plc s)[1 + i * 4 + 2]? = some (.bool (s.pe i))
  | 0, _ => rfl
  | 1, _ => rfl
  | 2, _ => rfl
  | 3, _ => rfl
  | 4, _ => rfl
  | 5, _ => rfl
  | 6, _ => rfl
  | 7, _ => rfl
  | k + 8, h => absurd h (by omega)
theorem pe_put (s : PS) (x : Bool) : ∀ i : Nat, i < 8 → (plc s).setIfInBounds (1 + i * 4 + 2) (.bool x) = plc { s with pe := upd s.pe i x }
  | 0, _ => by kernel_rfl
  | 1, _ => by kernel_rfl
  | 2, _ => by kernel_rfl
  | 3, _ => by kernel_rfl
  | 4, _ => by kernel_rfl
  | 5, _ => by kernel_rfl
  | 6, _ => by kernel_rfl
  | 7, _ => by kernel_rfl
  | k + 8, h => absurd h (by omega)
theorem se_at (s : PS) : ∀ i : Nat, i < 8 → (plc s)[1 + i * 4 + 3]? = some (.bool (s.se i))
  | 0, _ => rfl
  | 1, _ => rfl
  | 2, _ => rfl
  | 3, _ => rfl
  | 4, _ => rfl
  | 5, _ => rfl
  | 6, _ => rfl
  | 7, _ => rfl
  | k + 8, h => absurd h (by omega)
theorem se_put (s : PS) (x : Bool) : ∀ i : Nat, i < 8 → (plc s).setIfInBounds (1 + i * 4 + 3) (.bool x) = plc { s with se := upd s.se i x }
  | 0, _ => by kernel_rfl
  | 1, _ => by kernel_rfl
  | 2, _ => by kernel_rfl
  | 3, _ => by kernel_rfl
  | 4, _ => by kernel_rfl
  | 5, _ => by kernel_rfl
  | 6, _ => by kernel_rfl
  | 7, _ => by kernel_rfl
  | k + 8, h => absurd h (by omega)
theorem en_at (s : PS) : ∀ i : Nat, i < 2 → (plc s)[33 + i * 2]? = some (.int .u8 (s.en i))
  | 0, _ => rfl
  | 1, _ => rfl
  | k + 2, h => absurd h (by omega)
theorem en_put (s : PS) (x : Nat) : ∀ i : Nat, i < 2 → (plc s).setIfInBounds (33 + i * 2) (.int .u8 (x : Int)) = plc { s with en := upd s.en i x }
  | 0, _ => by kernel_rfl
  | 1, _ => by kernel_rfl
  | k + 2, h => absurd h (by omega)
theorem th_at (s : PS) : ∀ i : Nat, i < 2 → (plc s)[33 + i * 2 + 1]? = some (.int .u8 (s.th i))
  | 0, _ => rfl
  | 1, _ => rfl
  | k + 2, h => absurd h (by omega)
theorem th_put (s : PS) (x : Nat) : ∀ i : Nat, i < 2 → (plc s).setIfInBounds (33 + i * 2 + 1) (.int .u8 (x : Int)) = plc { s with th := upd s.th i x }
  | 0, _ => by kernel_rfl
  | 1, _ => by kernel_rfl
  | k + 2, h => absurd h (by omega)
end Go.Proofs.YtlgefljbhbefgaaDoor
