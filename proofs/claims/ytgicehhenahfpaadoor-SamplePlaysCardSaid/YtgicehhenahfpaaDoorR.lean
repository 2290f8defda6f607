/- The document's in: is an end among some? -/
import Derived.Test.YtgicehhenahfpaaDoorQ
set_option linter.unusedVariables false
set_option linter.unusedSimpArgs false
namespace Go.Proofs.YtgicehhenahfpaaDoor
open Go.RowKit
/-- Ends, as values. -/
def iv (L : List Int) : List Value := L.map fun x => .int .i64 x
theorem iv_len (L : List Int) : (iv L).length = L.length := by simp [iv]
theorem iv_at {L : List Int} {k : Nat} {x : Int} (h : L[k]? = some x) : (iv L)[k]? = some (.int .i64 x) := by simp [iv, h]
theorem has_next {L : List Int} {k : Nat} {x : Int} (h : L[k]? = some x) (g : Int) (hx : x ≠ g) (hn : g ∉ L.take k) : g ∉ L.take (k + 1) := by
  rw [List.take_add_one, h, List.mem_append]
  rintro (h1 | h1)
  · exact hn h1
  · exact hx (by simp at h1; exact h1.symm)
theorem in_any {w : World} {a : Option Addr} {n cap : Nat} {L : List Int} (hn : L.length = n) (hl : Lane w 3 (.slice a n cap) (iv L)) (hm : n ≤ 1048576) (g : Int) : Calls Tryd.prog 26 #[.slice a n cap, .int .i64 g] w fun e w' => e = .returned (.bool (decide (g ∈ L))) ∧ w' = w := by
  have HL := Lib.hid (And.intro hl hn)
  clear hl hn
  go_enter Tryd.func26, Tryd.ntmps26
  go_wp2
  go_loop [5] (fun i => ∃ k : Nat, k ≤ n ∧ i = .int .i64 k ∧ g ∉ L.take k) (fun i => n - (intOf i).toNat)
  case atStart => exact ⟨0, Nat.zero_le _, rfl, by simp⟩
  case round =>
    obtain ⟨k, hk, rfl, hno⟩ := hrel
    have HN := Lib.hid hno
    clear hno
    have k1 : (0 : Int) ≤ (k : Int) := Int.natCast_nonneg _
    by_cases hlt : k < n
    · have k2 : (k : Int) < (n : Int) := by omega
      obtain ⟨x, hx⟩ : ∃ x, L[k]? = some x := ⟨_, List.getElem?_eq_getElem (by rw [HL.out.2]; exact hlt)⟩
      obtain ⟨b, off, rfl⟩ : ∃ b off, a = some ⟨b, off, none⟩ := by
        rcases HL.out.1 with ⟨h, h0⟩ | ⟨b, off, cp, cur, h, _⟩
        · have := iv_at hx
          rw [h0] at this
          simp at this
        · cases h
          exact ⟨b, off, rfl⟩
      have c0 : w.cell? ⟨b, off + k, none⟩ = some (.int .i64 x) := HL.out.1.cell k _ (iv_at hx)
      have HC := Lib.hid (has_next hx g)
      have HM := Lib.hid (List.mem_of_getElem? hx)
      clear hx
      by_cases hxg : x = g
      · have e1 : (x == g) = true := by simp [hxg]
        have HV := Lib.hid hxg
        clear hxg
        go_wp2
        go_ret
        exact ⟨by rw [show decide (g ∈ L) = true from decide_eq_true (by rw [← HV.out]; exact HM.out)]; rfl, rfl⟩
      · have e1 : (x == g) = false := beq_eq_false_iff_ne.2 hxg
        have HV := Lib.hid hxg
        clear hxg
        go_wp2
        go_round
        case rel => exact ⟨k + 1, by omega, by go_num, HC.out HV.out HN.out⟩
        case measure => simp [intOf]; omega
    · have hkn : L.take k = L := List.take_of_length_le (by rw [HL.out.2]; omega)
      have HE : Hid (decide (g ∈ L) = false) := Lib.hid (decide_eq_false (by rw [← hkn]; exact HN.out))
      clear hkn
      go_wp2
      go_ret
      exact ⟨by rw [HE.out]; rfl, rfl⟩
end Go.Proofs.YtgicehhenahfpaaDoor
