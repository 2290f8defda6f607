/- Whether windows may be a table: the program's Check. -/
import Derived.Test.YtnfnhhphoiebbaaDoorRows
import Derived.Test.YtnfnhhphoiebbaaDoorLn
import Derived.Test.YtnfnhhphoiebbaaDoorFa
import Derived.WalkSmall
import Derived.Laws.BytesArg
import Derived.Laws.Rows
import Derived.Deep.RegionWith
import Derived.Deep.QuietTactic
import Derived.BigQuiet
import Derived.RegionTactic
import Derived.BigRegion
set_option linter.unusedVariables false
set_option linter.unusedSimpArgs false
namespace Go.Proofs.YtnfnhhphoiebbaaDoor
open Go.RowKit
theorem bool_eq {a b : Bool} (h : a = b) : Ending.returned (.bool a) = .returned (.bool b) := by rw [h]
theorem retN {k : IntKind} {a b : Nat} (h : a = b) : Ending.returned (.int k (a : Int)) = .returned (.int k (b : Int)) := by rw [h]
/-- A row of windows that stands in memory. -/
def IsWins (w : World) (a : Option Addr) (len : Nat) (l : List Win) : Prop :=
  l.length = len ∧ ∀ k (f : Win), l[k]? = some f → ∃ b off, a = some ⟨b, off, none⟩ ∧ b < w.heap.size ∧ w.cell? ⟨b, off + k * 2, none⟩ = some (.int .u8 f.1) ∧ w.cell? ⟨b, off + k * 2 + 1, none⟩ = some (.int .u16 f.2) ∧ f.1 < 256 ∧ f.2 < 65536
theorem IsWins.later {w wx : World} {a : Option Addr} {len : Nat} {l : List Win} (hf : IsWins w a len l) (bel : Below w.heap.size w wx) : IsWins wx a len l := ⟨hf.1, fun k f hk => by
    obtain ⟨b, off, rfl, hbb, c0, c1, hn⟩ := hf.2 k f hk
    exact ⟨b, off, rfl, Nat.lt_of_lt_of_le hbb bel.size, (bel.cell (by exact hbb)).trans c0, (bel.cell (by exact hbb)).trans c1, hn⟩⟩
theorem win_at {w : World} {a : Option Addr} {len : Nat} {l : List Win} (hf : IsWins w a len l) {k : Nat} {e : Win} (hk : l[k]? = some e) : (e.1 < 256 ∧ e.2 < 65536) ∧ ∃ b off, a = some ⟨b, off, none⟩ ∧ ∀ wx, Below w.heap.size w wx → (wx.cell? ⟨b, off + k * 2, none⟩ = some (.int .u8 e.1) ∧ wx.cell? ⟨b, off + k * 2 + 1, none⟩ = some (.int .u16 e.2)) := by
  obtain ⟨b, off, rfl, hbb, c0, c1, h1, h2⟩ := hf.2 k e hk
  exact ⟨⟨h1, h2⟩, b, off, rfl, fun wx hbx => ⟨(hbx.cell (by exact hbb)).trans c0, (hbx.cell (by exact hbb)).trans c1⟩⟩
/-- Sixteen truths. -/
def hasA (F : Nat → Bool) : Array Value := #[.bool (F 0), .bool (F 1), .bool (F 2), .bool (F 3), .bool (F 4), .bool (F 5), .bool (F 6), .bool (F 7), .bool (F 8), .bool (F 9), .bool (F 10), .bool (F 11), .bool (F 12), .bool (F 13), .bool (F 14), .bool (F 15)]
def upd (F : Nat → Bool) (k : Nat) (i : Nat) : Bool := if i = k then true else F i
theorem hasA_at (F : Nat → Bool) : ∀ k : Nat, k < 16 → (hasA F)[k]? = some (.bool (F k))
  | 0, _ => rfl
  | 1, _ => rfl
  | 2, _ => rfl
  | 3, _ => rfl
  | 4, _ => rfl
  | 5, _ => rfl
  | 6, _ => rfl
  | 7, _ => rfl
  | 8, _ => rfl
  | 9, _ => rfl
  | 10, _ => rfl
  | 11, _ => rfl
  | 12, _ => rfl
  | 13, _ => rfl
  | 14, _ => rfl
  | 15, _ => rfl
  | k + 16, h => absurd h (by omega)
theorem hasA_set (F : Nat → Bool) : ∀ k : Nat, k < 16 → (hasA F).setIfInBounds k (.bool true) = hasA (upd F k)
  | 0, _ => rfl
  | 1, _ => rfl
  | 2, _ => rfl
  | 3, _ => rfl
  | 4, _ => rfl
  | 5, _ => rfl
  | 6, _ => rfl
  | 7, _ => rfl
  | 8, _ => rfl
  | 9, _ => rfl
  | 10, _ => rfl
  | 11, _ => rfl
  | 12, _ => rfl
  | 13, _ => rfl
  | 14, _ => rfl
  | 15, _ => rfl
  | k + 16, h => absurd h (by omega)
theorem index_any (H G : Nat) (F : Nat → Bool) (w : World) (hG : G ≤ 16) (hH : Box w H 65 (hasA F)) : Calls Tryd.prog 37 #[.slice (some ⟨H, 0, none⟩) G 16, .bool false] w fun e w' => (∃ i : Int, e = .returned (.int .i64 i) ∧ (0 ≤ i ↔ ∃ g, g < G ∧ F g = false)) ∧ w = w' := by
  have HB := Lib.hid hH
  clear hH
  go_enter Tryd.func37, Tryd.ntmps37
  go_wp2
  go_loop [8] (fun i => ∃ k : Nat, k ≤ G ∧ i = .int .i64 k ∧ ∀ j, j < k → F j = true) (fun i => G - (intOf i).toNat)
  case atStart => exact ⟨0, Nat.zero_le _, rfl, fun j h => by omega⟩
  case round =>
    obtain ⟨k, hk, rfl, hno⟩ := hrel
    have HN := Lib.hid hno
    clear hno
    have k1 : (0 : Int) ≤ (k : Int) := Int.natCast_nonneg _
    by_cases hlt : k < G
    · have k2 : (k : Int) < (G : Int) := by omega
      have ce : w.cell? ⟨H, k, none⟩ = some (.bool (F k)) := (HB.out.read k).trans (hasA_at F k (by omega))
      cases hF : F k
      · rw [hF] at ce
        have HF := Lib.hid hF
        clear hF
        go_wp2
        go_ret
        exact ⟨⟨k, rfl, ⟨fun _ => ⟨k, hlt, HF.out⟩, fun _ => by omega⟩⟩, rfl⟩
      · rw [hF] at ce
        have HF := Lib.hid hF
        clear hF
        go_wp2
        go_round
        case rel => exact ⟨k + 1, by omega, by go_num, fun j hj => by
          by_cases hjk : j = k
          · rw [hjk]; exact HF.out
          · exact HN.out j (by omega)⟩
        case measure => simp [intOf]; omega
    · go_wp2
      go_ret
      refine ⟨⟨-1, rfl, ⟨fun h => absurd h (by decide), fun ⟨g, hg, hf⟩ => ?_⟩⟩, rfl⟩
      rw [HN.out g (by omega)] at hf
      cases hf
open Classical in
theorem contains_any (H G : Nat) (F : Nat → Bool) (w : World) (hG : G ≤ 16) (hH : Box w H 65 (hasA F)) : Calls Tryd.prog 31 #[.slice (some ⟨H, 0, none⟩) G 16, .bool false] w fun e w' => e = .returned (.bool (decide (∃ g, g < G ∧ F g = false))) ∧ w = w' := by
  have HI := Lib.hid (index_any H G F w hG hH)
  clear hH
  by_cases hx : ∃ g, g < G ∧ F g = false
  · rw [decide_eq_true hx]
    go_enter Tryd.func31, Tryd.ntmps31
    go_wp2_with (go_at_call 37; refine HI.out.mono ?_; rintro e w' ⟨⟨i, rfl, hi⟩, rfl⟩; have h0 := hi.2 hx; clear hi)
    go_ret
    exact ⟨bool_eq (by first | rfl | simpa using h0), rfl⟩
  · rw [decide_eq_false hx]
    go_enter Tryd.func31, Tryd.ntmps31
    go_wp2_with (go_at_call 37; refine HI.out.mono ?_; rintro e w' ⟨⟨i, rfl, hi⟩, rfl⟩; have h0 : ¬ (0 ≤ i) := fun h => hx (hi.1 h); clear hi)
    go_ret
    exact ⟨bool_eq (by first | rfl | simpa using h0), rfl⟩
end Go.Proofs.YtnfnhhphoiebbaaDoor
