/- The document's Hex and in. -/
import Derived.Test.YtgicehhenahfpaaDoorF
import Derived.Test.YtgicehhenahfpaaDoorP
import Derived.Laws.DeepStrings4
set_option linter.unusedVariables false
set_option linter.unusedSimpArgs false
namespace Go.Proofs.YtgicehhenahfpaaDoor
open Go.RowKit
attribute [local go_sem] Oper.semAt_some
abbrev digs : ByteArray := ⟨#[48, 49, 50, 51, 52, 53, 54, 55, 56, 57, 97, 98, 99, 100, 101, 102]⟩
theorem digs_at : ∀ q, q < 16 → digs.extract q (q + 1) = st [hx q] := by decide +kernel
theorem dig_at (q : Nat) (h : q < 16) (wx : World) : (Instr.slice 9 (.string digs) (some (.int .u8 q)) (some (.int .u8 ((q : Int) + 1))) none).run Tryd.prog wx = .ok (.string (st [hx q])) wx := by
  have hs : (digs.size : Int) = 16 := rfl
  rw [run_slice_string_if (h := Tryd.underlying9), if_pos (by rw [hs]; omega), if_pos (by omega)]
  have e : ((q : Int) + 1).toNat = q + 1 := by omega
  rw [e, Int.toNat_natCast, digs_at q h]
theorem ix_at (y : ByteArray) (k : Nat) (c : UInt8) (h : y.data.toList[k]? = some c) (wx : World) : (Instr.index 9 (.string y) (.int .i64 k)).run Tryd.prog wx = .ok (.int .u8 c.toNat) wx := by
  obtain ⟨hk, hc⟩ := List.getElem?_eq_some_iff.1 h
  have hk' : k < y.size := by rw [Array.length_toList] at hk; exact hk
  rw [run_index_string (h := Tryd.underlying9), dif_pos ⟨by omega, by omega⟩]
  have : y[(k : Int).toNat]'(by omega) = c := by rw [← hc]; rfl
  rw [this]
set_option maxHeartbeats 1000000 in
theorem hex_any (s : ByteArray) (hs : s.size ≤ 1048576) (w : World) : Calls Tryd.prog 30 #[.string s] w fun e w' => e = .returned (.string (st (hexT s.data.toList))) ∧ ∃ m, w' = w.drewN m := by
  have hsl : s.data.toList.length = s.size := Array.length_toList
  go_enter Tryd.func30, Tryd.ntmps30
  go_wp2_with fail
  go_loopw [3, 4] (fun x i wr => ∃ k : Nat, k ≤ s.size ∧ x = .string (st (hexL (s.data.toList.take k))) ∧ i = .int .i64 k ∧ ∃ m, wr = w.drewN m) (fun _ i _ => s.size - (intOf i).toNat)
  case atStart => exact ⟨0, by omega, rfl, rfl, 0, rfl⟩
  case round =>
    obtain ⟨k, hk, rfl, rfl, mw, rfl⟩ := hrel
    by_cases hlt : k < s.size
    · obtain ⟨c, hc⟩ : ∃ c, s.data.toList[k]? = some c := ⟨_, List.getElem?_eq_getElem (by omega)⟩
      have hcl := UInt8.toNat_lt c
      have r1 := ix_at s k c hc
      have HT : Hid (s.data.toList.take (k + 1) = s.data.toList.take k ++ [c]) := Lib.hid (by rw [List.take_add_one, hc]; rfl)
      have hln : (hexL (s.data.toList.take k)).length ≤ 2097152 := by rw [hexL_len, List.length_take]; omega
      generalize hAe : hexL (s.data.toList.take k) = A at hln
      have HA := Lib.hid hAe
      clear hAe hc
      obtain ⟨q, hq, hdv⟩ : ∃ q : Nat, q = c.toNat / 16 ∧ (c.toNat : Int) / 16 = (q : Int) := ⟨_, rfl, rfl⟩
      obtain ⟨r, hr, hmd⟩ : ∃ r : Nat, r = c.toNat % 16 ∧ (c.toNat : Int) % 16 = (r : Int) := ⟨_, rfl, rfl⟩
      have hmt : (c.toNat : Int).tmod 16 = (r : Int) := hmd
      have hdt : (c.toNat : Int).tdiv 16 = (q : Int) := hdv
      have hq16 : q < 16 := by omega
      have hr16 : r < 16 := by omega
      have s1 := dig_at q hq16
      have s2 := dig_at r hr16
      have t1 := st_app A [hx q]
      have t2 := st_app (A ++ [hx q]) [hx r]
      have u1 : ¬ 9223372036854775807 < (st A).size + (st [hx q]).size := by simp only [st_size, List.length_cons, List.length_nil]; omega
      have u2 : ¬ 9223372036854775807 < (st (A ++ [hx q])).size + (st [hx r]).size := by simp only [st_size, List.length_append, List.length_cons, List.length_nil]; omega
      have HQ := Lib.hid (And.intro hq hr)
      clear hq hr
      go_wp2_with fail
      go_quiet (fail)
      go_wp2_with fail
      go_quiet (fail)
      go_wp2_with fail
      go_roundw
      case rel => exact ⟨k + 1, by omega, by rw [HT.out, hexL_app, HA.out, HQ.out.1, HQ.out.2]; simp [hexL], by first | go_num | rfl, _, rfl⟩
      case measure => simp [intOf]; omega
    · have hke : k = s.size := by omega
      have hAe : hexL (s.data.toList.take k) = hexL s.data.toList := by rw [List.take_of_length_le (by omega)]
      rw [hAe]
      by_cases h0 : s.data.toList = []
      · have HE : Hid (st (hexT s.data.toList) = ⟨#[45]⟩) := Lib.hid (by rw [h0]; rfl)
        have hz : (st (hexL s.data.toList)).toList.isEmpty = true := by rw [h0, ByteArray.toList_eq]; rfl
        clear h0
        go_wp2_with fail
        go_ret
        exact ⟨by rw [HE.out]; rfl, _, rfl⟩
      · have HE : Hid (hexT s.data.toList = hexL s.data.toList) := Lib.hid (by unfold hexT; rw [if_neg h0])
        have hz : (st (hexL s.data.toList)).toList.isEmpty = false := by
          have h2 := List.length_pos_iff.2 h0
          have h3 := hexL_len s.data.toList
          rw [ByteArray.toList_eq]
          show (hexL s.data.toList).isEmpty = false
          cases he : hexL s.data.toList with
          | nil => rw [he] at h3; simp only [List.length_nil] at h3; omega
          | cons x y => rfl
        clear h0
        go_wp2_with fail
        go_ret
        exact ⟨by rw [HE.out]; rfl, _, rfl⟩
end Go.Proofs.YtgicehhenahfpaaDoor
