/- The document's Count: how many of a frame's steps are a guest's. -/
import Derived.Test.YtnfnhhphoiebbaaDoorFn
set_option linter.unusedVariables false
set_option linter.unusedSimpArgs false
namespace Go.Proofs.YtnfnhhphoiebbaaDoor
open Go.RowKit
def bv (L : List Nat) : List Value := L.map fun (x : Nat) => .int .u8 x
theorem bv_len (L : List Nat) : (bv L).length = L.length := by simp [bv]
theorem bv_at {L : List Nat} {k x : Nat} (h : L[k]? = some x) : (bv L)[k]? = some (.int .u8 x) := by simp [bv, h]
theorem count_next {L : List Nat} {k x : Nat} (h : L[k]? = some x) (g : Nat) : (L.take (k + 1)).count g = (L.take k).count g + (if x = g then 1 else 0) := by
  rw [List.take_add_one, h, List.count_append]
  simp [List.count_cons]
theorem count_any {w : World} {a : Option Addr} {n cap : Nat} {L : List Nat} (hn : L.length = n) (hl : Lane w 5 (.slice a n cap) (bv L)) (hm : n ≤ 1048576) (hL : ∀ x ∈ L, x < 256) (g : Nat) (hg : g < 256) : Calls Tryd.prog 16 #[.slice a n cap, .int .u8 g] w fun e w' => e = .returned (.int .u64 (L.count g : Nat)) ∧ w = w' := by
  have HL := Lib.hid (And.intro hl (And.intro hn hL))
  clear hl hn hL
  go_enter Tryd.func16, Tryd.ntmps16
  go_wp2
  go_loop [5, 6] (fun c i => ∃ k : Nat, k ≤ n ∧ c = .int .u64 ((L.take k).count g : Nat) ∧ i = .int .i64 k) (fun _ i => n - (intOf i).toNat)
  case atStart => exact ⟨0, Nat.zero_le _, by simp, rfl⟩
  case round =>
    obtain ⟨k, hk, rfl, rfl⟩ := hrel
    have k1 : (0 : Int) ≤ (k : Int) := Int.natCast_nonneg _
    have hcl : (L.take k).count g ≤ k := Nat.le_trans List.count_le_length (by rw [List.length_take]; exact Nat.min_le_left _ _)
    by_cases hlt : k < n
    · have k2 : (k : Int) < (n : Int) := by omega
      obtain ⟨x, hx⟩ : ∃ x, L[k]? = some x := ⟨_, List.getElem?_eq_getElem (by rw [HL.out.2.1]; exact hlt)⟩
      have hx8 : x < 256 := HL.out.2.2 x (List.mem_of_getElem? hx)
      obtain ⟨b, off, rfl⟩ : ∃ b off, a = some ⟨b, off, none⟩ := by
        rcases HL.out.1 with ⟨h, h0⟩ | ⟨b, off, cp, cur, h, _⟩
        · have := bv_at hx
          rw [h0] at this
          simp at this
        · cases h
          exact ⟨b, off, rfl⟩
      have c0 : w.cell? ⟨b, off + k, none⟩ = some (.int .u8 x) := HL.out.1.cell k _ (bv_at hx)
      have HC := Lib.hid (count_next hx g)
      generalize (L.take k).count g = c at hcl HC ⊢
      have q1 : (0 : Int) ≤ (c : Int) := Int.natCast_nonneg _
      have q2 : (c : Int) ≤ 1048576 := by omega
      clear hx
      by_cases hxg : x = g
      · have e1 : ((x : Int) == (g : Int)) = true := by simp [hxg]
        have HV := Lib.hid hxg
        clear hxg
        go_wp2
        go_round
        case rel => exact ⟨k + 1, by omega, val_eq (by rw [HC.out, if_pos HV.out]; omega), by go_num⟩
        case measure => simp [intOf]; omega
      · have e1 : ((x : Int) == (g : Int)) = false := beq_eq_false_iff_ne.2 (by omega)
        have HV := Lib.hid hxg
        clear hxg
        go_wp2
        go_round
        case rel => exact ⟨k + 1, by omega, val_eq (by rw [HC.out, if_neg HV.out]; omega), by go_num⟩
        case measure => simp [intOf]; omega
    · have hkn : L.take k = L := List.take_of_length_le (by rw [HL.out.2.1]; omega)
      rw [hkn] at hcl ⊢
      generalize hcc : L.count g = c at hcl ⊢
      have HC := Lib.hid hcc
      clear hkn hcc
      go_wp2
      go_ret
      exact ⟨retN HC.out.symm, rfl⟩
end Go.Proofs.YtnfnhhphoiebbaaDoor
