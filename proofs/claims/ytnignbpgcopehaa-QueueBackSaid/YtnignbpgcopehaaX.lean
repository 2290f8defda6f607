/- QueueBack's body. -/
import Derived.Test.YtnignbpgcopehaaV
set_option linter.unusedVariables false
set_option linter.unusedSimpArgs false
namespace Go.Proofs.Ytnignbpgcopehaa
open Go.RowKit
theorem deeds_later {w wx : World} {a : Option Addr} {len : Nat} {l : List Deed} (h : IsDeeds w a len l) (bel : Below w.heap.size w wx) : IsDeeds wx a len l := ⟨h.1, fun k f hk => by
  obtain ⟨b, off, rfl, hbb, c0, c1, hn⟩ := h.2 k f hk
  exact ⟨b, off, rfl, Nat.lt_of_lt_of_le hbb bel.size, (bel.cell (by exact hbb)).trans c0, (bel.cell (by exact hbb)).trans c1, hn⟩⟩
def w2of (w : World) (d m : Nat) (s0 s1 : Value) : World := (w.alloc (.cells #[.int .u8 d, .int .u8 m] 46)).alloc (.cells #[s0, s1] 47)
set_option maxHeartbeats 1000000 in
set_option maxRecDepth 200000 in
theorem back_bad (d m : Nat) (a0 : Option Addr) (len0 cap0 : Nat) (a1 : Option Addr) (len1 cap1 : Nat) (l0 l1 : List Deed) (s : ByteArray) (h : ¬ (1 ≤ d ∧ d ≤ 16 ∧ 1 ≤ m ∧ m ≤ 64)) (w : World) (h0 : IsDeeds w a0 len0 l0) (h1 : IsDeeds w a1 len1 l1) :
    Calls Try.prog 6 #[.agg #[.int .u8 d, .int .u8 m], .agg #[.slice a0 len0 cap0, .slice a1 len1 cap1], .string s] w (Yes w) := by
  have hB : Below w.heap.size w (w2of w d m (.slice a0 len0 cap0) (.slice a1 len1 cap1)) := by
    unfold w2of
    exact ((Below.refl _ _).alloc (Nat.le_refl _) _).alloc (by simp) _
  have F0 := few_any a0 len0 cap0 l0 _ (deeds_later h0 hB)
  have F1 := few_any a1 len1 cap1 l1 _ (deeds_later h1 hB)
  unfold w2of at F0 F1 hB
  generalize fewB len0 l0 = b0 at F0
  generalize fewB len1 l1 = b1 at F1
  have HF0 := Lib.hid F0
  have HF1 := Lib.hid F1
  have HB := Lib.hid hB
  clear F0 F1 h0 h1 hB
  have hsz := Nat.lt_or_ge 2000 s.size
  rcases hsz with hsz | hsz <;> cases b0 <;> cases b1
  all_goals go_enter Try.func6, Try.ntmps6
  all_goals go_wp2_with (first
    | (go_at_call 7; refine (new_bad d m h _).mono ?_; rintro e w' ⟨rfl, rfl⟩)
    | (go_at_call 9; first | (refine HF0.out.mono ?_; clear HF0; rintro e w' ⟨rfl, rfl⟩) | (refine HF1.out.mono ?_; clear HF1; rintro e w' ⟨rfl, rfl⟩))
    | (go_at_call 10; refine (awake_any _).mono ?_; rintro e w' ⟨rfl, bel⟩))
  all_goals
    go_ret
    exact ⟨rfl, HB.out.trans (bel.mono HB.out.size)⟩
end Go.Proofs.Ytnignbpgcopehaa
