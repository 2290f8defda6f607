/- SampleEnds: what the law's own text does: it answers true, and writes nothing that was there. -/
import Derived.Test.YtaeebbcjofkjlaaE
namespace Go.Proofs.Ytaeebbcjofkjlaa
open Go.RowKit

/-- The cells of a list of acts, act by act: what, a moment, a text, an end. -/
structure Deed where
  what : Int
  t : Int
  s : ByteArray
  k : Int
def Deed.cells (a : Deed) : List Value := [.int .u8 a.what, .int .u64 a.t, .string a.s, .int .i64 a.k]
def Deed.fits (a : Deed) : Prop := (0 ≤ a.what ∧ a.what ≤ 255) ∧ (0 ≤ a.t ∧ a.t ≤ 18446744073709551615) ∧ (-9223372036854775808 ≤ a.k ∧ a.k ≤ 9223372036854775807)

/-- The call returns a bool. -/
def SomeBool (e : Ending) : Prop := ∃ x, e = .returned (.bool x)

/-- A list of acts that came in. -/
def IsDeeds (w : World) (a : Option Addr) (len cap : Nat) (l : Nat → Deed) : Prop :=
  len ≤ cap ∧ cap ≤ maxLen ∧ (0 < len → ∃ b off, a = some ⟨b, off, none⟩ ∧ b < w.heap.size ∧ ∀ i, i < len → w.rangeAt b (off + i * 4) (l i).cells ∧ (l i).fits)

theorem IsDeeds.later {w w' : World} {a : Option Addr} {len cap : Nat} {l : Nat → Deed} (h : IsDeeds w a len cap l) (d : Below w.heap.size w w') : IsDeeds w' a len cap l := by
  obtain ⟨hl, hm, hc⟩ := h
  refine ⟨hl, hm, fun h0 => ?_⟩
  obtain ⟨b, off, rfl, hb, hi⟩ := hc h0
  exact ⟨b, off, rfl, Nat.lt_of_lt_of_le hb d.size, fun i hlt => ⟨fun j v hv => (d.cell (p := ⟨b, _, none⟩) hb).trans ((hi i hlt).1 j v hv), (hi i hlt).2⟩⟩

set_option maxHeartbeats 400000 in
theorem few_any (a : Option Addr) (len cap : Nat) (l : Nat → Deed) (w : World) (h : IsDeeds w a len cap l) :
    Calls Try.prog 8 #[.slice a len cap] w fun e w' => SomeBool e ∧ w = w' := by
  obtain ⟨hl, hm, hc⟩ := h
  unfold maxLen at hm
  go_enter Try.func8, Try.ntmps8
  go_wp2_with fail
  go_loop [3] (fun i => ∃ k : Nat, k ≤ len ∧ i = .int .i64 k) (fun i => len - (intOf i).toNat)
  case atStart => exact ⟨0, by omega, rfl⟩
  case round =>
    obtain ⟨k, hk, rfl⟩ := hrel
    by_cases hlt : k < len
    · obtain ⟨b, off, rfl, hb, hi⟩ := hc (by omega)
      obtain ⟨hr, _⟩ := hi k hlt
      have h2 : w.cell? ⟨b, off + k * 4 + 2, none⟩ = some (.string (l k).s) := hr 2 _ rfl
      clear hr hi hc
      by_cases h60 : k < 60
      · by_cases hs : (l k).s.size ≤ 100
        · go_wp2_with fail
          go_round
          case rel => exact ⟨k + 1, by omega, by go_num⟩
          case measure => simp [intOf]; omega
        · go_wp2_with fail
          go_ret
          exact ⟨⟨_, rfl⟩, rfl⟩
      · go_wp2_with fail
        go_ret
        exact ⟨⟨_, rfl⟩, rfl⟩
    · go_wp2_with fail
      go_ret
      exact ⟨⟨_, rfl⟩, rfl⟩

section
variable {mo va en : Int}

set_option maxHeartbeats 400000 in
set_option maxRecDepth 100000 in
theorem ends_bad (h : ¬ (1 ≤ mo ∧ mo ≤ 64 ∧ 1 ≤ en ∧ en ≤ 16)) (a : Option Addr) (len cap : Nat) (w : World) :
    Calls Try.prog 5 #[.agg #[.int .i64 mo, .int .u32 va, .int .i64 en], .slice a len cap] w fun e w' => e = .returned (.bool true) ∧ Below w.heap.size w w' := by
  have H := Lib.hid h
  clear h
  go_enter Try.func5, Try.ntmps5
  go_wp2_with fail
  refine (new_bad H.out _).mono ?_
  rintro e w1 ⟨rfl, rfl⟩
  go_wp2_with fail
  refine (works_any _).mono ?_
  rintro e w2 ⟨rfl, d2⟩
  go_wp2_with fail
  go_ret
  exact ⟨rfl, ((Below.refl _ _).alloc (Nat.le_refl _) _).trans (d2.mono (by simp))⟩

end
end Go.Proofs.Ytaeebbcjofkjlaa
