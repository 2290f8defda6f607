/- CodecSum's body. -/
import Derived.Test.YtddacegeepgmmaaB
import Derived.Deep.RegionWith
import Derived.Deep.RegionHeld3
import Derived.WalkSmall
import Derived.Laws.BytesArg
set_option linter.unusedVariables false
set_option linter.unusedSimpArgs false
namespace Go.Proofs.Ytddacegeepgmmaa
open Go.RowKit

def sumS (s : ByteArray) : Nat := sumL s.data.toList
theorem sum_s (s : ByteArray) (w : World) (hs : s.size ≤ 9223372036854775806) : Calls Try.prog 10 #[.string s] w fun e w' => e = .returned (.int .u32 (sumS s)) ∧ w = w' := sum_any s w hs
abbrev spoil (a b : Int) (o : ByteArray) : Array Value := #[.int .u16 a, .int .u8 b, .string o]
theorem law_long1 (s t o : ByteArray) (p q : Int) (h1 : 600 < s.size) (w : World) :
    Calls Try.prog 6 #[.string s, .string t, .agg (spoil p q o)] w (Yes w) := by
  go_enter Try.func6, Try.ntmps6
  go_wp2_with (go_at_call 7; refine (awake_any _).mono ?_; rintro e w' ⟨rfl, bel⟩)
  go_ret
  exact ⟨rfl, ((Below.refl _ _).alloc (Nat.le_refl _) _).trans (bel.mono (by simp))⟩
theorem law_long2 (s t o : ByteArray) (p q : Int) (h1 : s.size ≤ 600) (h2 : 600 < t.size) (w : World) :
    Calls Try.prog 6 #[.string s, .string t, .agg (spoil p q o)] w (Yes w) := by
  go_enter Try.func6, Try.ntmps6
  go_wp2_with (go_at_call 7; refine (awake_any _).mono ?_; rintro e w' ⟨rfl, bel⟩)
  go_ret
  exact ⟨rfl, ((Below.refl _ _).alloc (Nat.le_refl _) _).trans (bel.mono (by simp))⟩
theorem law_long3 (s t o : ByteArray) (p q : Int) (h1 : s.size ≤ 600) (h2 : t.size ≤ 600) (h3 : 600 < o.size) (w : World) :
    Calls Try.prog 6 #[.string s, .string t, .agg (spoil p q o)] w (Yes w) := by
  go_enter Try.func6, Try.ntmps6
  go_wp2_with (go_at_call 7; refine (awake_any _).mono ?_; rintro e w' ⟨rfl, bel⟩)
  go_ret
  exact ⟨rfl, ((Below.refl _ _).alloc (Nat.le_refl _) _).trans (bel.mono (by simp))⟩

theorem sum_q (s : ByteArray) (w : World) (hs : s.size ≤ 9223372036854775806) : Calls Try.prog 10 #[.string s] w fun e w' => e = .returned (.int .u32 (sumS s)) ∧ w' = w :=
  (sum_s s w hs).mono fun e w' ⟨h1, h2⟩ => ⟨h1, h2.symm⟩
theorem end_below {w w' : World} {n : Nat} {o : Obj} (bel : Below ((w.alloc o).drewN n).heap.size ((w.alloc o).drewN n) w') : Below w.heap.size w w' :=
  (below_drewN ((Below.refl _ _).alloc (Nat.le_refl _) o) n).trans (bel.mono (by simp))
theorem app_size (s t : ByteArray) (h1 : s.size ≤ 600) (h2 : t.size ≤ 600) : (s ++ t).size ≤ 9223372036854775806 := by
  rw [ByteArray.size_append]; omega
/-- Nothing is spoilt: the first text is empty, or the byte stays. -/
theorem law_none (s t o : ByteArray) (p q : Int) (h1 : s.size ≤ 600) (h2 : t.size ≤ 600) (h3 : o.size ≤ 600) (hz : s.size = 0 ∨ 0 < s.size ∧ q = 0) (w : World) :
    Calls Try.prog 6 #[.string s, .string t, .agg (spoil p q o)] w (Yes w) := by
  have a1 := app_size s t h1 h2
  have a2 := app_size o t h3 h2
  by_cases hne : sumS s = sumS o
  · have hd : (((sumS s : Nat) : Int) == ((sumS o : Nat) : Int)) = true := by simp; omega
    have he : ((((sumS (s ++ t) : Nat) : Int)) != ((sumS (o ++ t) : Nat) : Int)) = false := by
      have : sumS (s ++ t) = sumS (o ++ t) := by
        unfold sumS at *
        rw [ByteArray.data_append, ByteArray.data_append, Array.toList_append, Array.toList_append]
        exact sum_same hne
      rw [this]; simp
    clear hne
    rcases hz with hz | ⟨hz, rfl⟩
    · go_enter Try.func6, Try.ntmps6
      go_wp2_with fail
      go_quiet ((go_at_call 10; exact Calls.quiet_of_same (sum_q _ _ (by first | omega | assumption))))
      go_wp2_with (go_at_call 7; refine (awake_any _).mono ?_; rintro e w' ⟨rfl, bel⟩)
      go_ret
      exact ⟨rfl, end_below bel⟩
    · have hs0 : ((s.size : Int) == 0) = false := beq_eq_false_iff_ne.2 (by omega)
      go_enter Try.func6, Try.ntmps6
      go_wp2_with fail
      go_quiet ((go_at_call 10; exact Calls.quiet_of_same (sum_q _ _ (by first | omega | assumption))))
      go_wp2_with (go_at_call 7; refine (awake_any _).mono ?_; rintro e w' ⟨rfl, bel⟩)
      go_ret
      exact ⟨rfl, end_below bel⟩
  · have hd : (((sumS s : Nat) : Int) == ((sumS o : Nat) : Int)) = false := beq_eq_false_iff_ne.2 (by omega)
    clear hne
    rcases hz with hz | ⟨hz, rfl⟩
    · go_enter Try.func6, Try.ntmps6
      go_wp2_with fail
      go_quiet ((go_at_call 10; exact Calls.quiet_of_same (sum_q _ _ (by first | omega | assumption))))
      go_wp2_with (go_at_call 7; refine (awake_any _).mono ?_; rintro e w' ⟨rfl, bel⟩)
      go_ret
      exact ⟨rfl, end_below bel⟩
    · have hs0 : ((s.size : Int) == 0) = false := beq_eq_false_iff_ne.2 (by omega)
      go_enter Try.func6, Try.ntmps6
      go_wp2_with fail
      go_quiet ((go_at_call 10; exact Calls.quiet_of_same (sum_q _ _ (by first | omega | assumption))))
      go_wp2_with (go_at_call 7; refine (awake_any _).mono ?_; rintro e w' ⟨rfl, bel⟩)
      go_ret
      exact ⟨rfl, end_below bel⟩

theorem conv_one (c : Int) (W : World) : (convert 51 9 (.slice (some ⟨W.heap.size, 0, none⟩) 1 1)).run Try.prog (W.alloc (.cells #[.int .u8 c] 5)).drew = .ok (.string ⟨#[UInt8.ofNat c.toNat]⟩) (W.alloc (.cells #[.int .u8 c] 5)).drew := by
  have h := run_convert_bytes_arg (P := Try.prog) (W.alloc (.cells #[.int .u8 c] 5)).drew 51 5 Try.underlying51 Try.underlying5 W.heap.size 0 1 1 [c] rfl (fun i hi => by
    obtain rfl : i = 0 := by omega
    simp) 9 Try.underlying9
  rw [h]
  rfl
theorem xor_byte (c d : Nat) (hc : c < 256) (hd : d < 256) : bits .xor .u8 (c : Int) (d : Int) = ((c ^^^ d : Nat) : Int) := by
  have hx : c ^^^ d < 2 ^ 8 := Nat.xor_lt_two_pow hc hd
  have h1 : (BitVec.ofInt 8 (c : Int)).toNat = c := by
    rw [BitVec.ofInt_natCast, BitVec.toNat_ofNat]; exact Nat.mod_eq_of_lt (by omega)
  have h2 : (BitVec.ofInt 8 (d : Int)).toNat = d := by
    rw [BitVec.ofInt_natCast, BitVec.toNat_ofNat]; exact Nat.mod_eq_of_lt (by omega)
  show IntKind.u8.wrap ((BitVec.ofInt 8 (c : Int) ^^^ BitVec.ofInt 8 (d : Int)).toNat : Int) = _
  rw [BitVec.toNat_xor, h1, h2]
  simp only [IntKind.wrap, IntKind.signed, IntKind.bits, Bool.false_and, Bool.false_eq_true, if_false, show (2 : Int) ^ 8 = 256 from rfl]
  omega
theorem spoilt_ne (s : ByteArray) (i q : Nat) (hi : i < s.size) (hq : 0 < q) (hq2 : q < 256) : sumS (s.extract 0 i ++ ⟨#[s[i] ^^^ UInt8.ofNat q]⟩ ++ s.extract (i + 1) s.size) ≠ sumS s := by
  have hl : i < s.data.toList.length := by simpa using hi
  have e1 : s.data.toList = s.data.toList.take i ++ [s[i]] ++ s.data.toList.drop (i + 1) := by
    have h1 := List.take_append_drop i s.data.toList
    rw [List.drop_eq_getElem_cons hl] at h1
    rw [List.append_assoc]
    exact h1.symm
  have e2 : (s.extract 0 i ++ ⟨#[s[i] ^^^ UInt8.ofNat q]⟩ ++ s.extract (i + 1) s.size).data.toList = s.data.toList.take i ++ [s[i] ^^^ UInt8.ofNat q] ++ s.data.toList.drop (i + 1) := by
    simp [ByteArray.data_append, ByteArray.data_extract]
    exact List.take_of_length_le (by simp)
  unfold sumS
  rw [e2]
  conv => rhs; rw [e1]
  refine sum_spoilt _ _ _ _ fun h => ?_
  have h1 : (s[i] ^^^ UInt8.ofNat q) ^^^ s[i] = s[i] ^^^ s[i] := by rw [h]
  have h2 : UInt8.ofNat q = 0 := by
    rw [UInt8.xor_self, UInt8.xor_comm, ← UInt8.xor_assoc, UInt8.xor_self, UInt8.zero_xor] at h1
    exact h1
  have h3 : (UInt8.ofNat q).toNat = q := by rw [UInt8.toNat_ofNat']; omega
  rw [h2] at h3
  have : (0 : UInt8).toNat = 0 := rfl
  omega
set_option maxHeartbeats 1600000 in
theorem law_spoil (s t o : ByteArray) (p q i : Nat) (h1 : s.size ≤ 600) (h2 : t.size ≤ 600) (h3 : o.size ≤ 600) (hq : 0 < q) (hp : p < 65536) (hq2 : q < 256) (hi : i < s.size) (e7 : (p : Int) % (s.size : Int) = (i : Int)) (hne : ¬ sumS s = sumS o) (w : World) :
    Calls Try.prog 6 #[.string s, .string t, .agg (spoil p q o)] w (Yes w) := by
  have a1 := app_size s t h1 h2
  have a2 := app_size o t h3 h2
  have hs0 : ((s.size : Int) == 0) = false := beq_eq_false_iff_ne.2 (by omega)
  have hq0 : ((q : Int) == 0) = false := beq_eq_false_iff_ne.2 (by omega)
  have hd : (((sumS s : Nat) : Int) == ((sumS o : Nat) : Int)) = false := beq_eq_false_iff_ne.2 (by omega)
  clear hne
  go_enter Try.func6, Try.ntmps6
  go_wp2_with fail
  go_quiet ((go_at_call 10; exact Calls.quiet_of_same (sum_q _ _ (by first | omega | assumption))))
  go_wp2_with fail
  have hc1 : ((w.alloc (.cells (spoil p q o) 50)).drewN nq).cell? ⟨w.heap.size, 1, none⟩ = some (.int .u8 q) := by simp
  have hb1 : Below w.heap.size w ((w.alloc (.cells (spoil p q o) 50)).drewN nq) := below_drewN ((Below.refl _ _).alloc (Nat.le_refl _) _) nq
  have hl1 : w.heap.size < ((w.alloc (.cells (spoil p q o) 50)).drewN nq).heap.size := by simp
  rw [e7]
  clear e7
  have g1 : (0 : Int) ≤ (i : Int) := Int.natCast_nonneg _
  have n1 : i ≤ s.size := by omega
  have n2 : i + 1 ≤ s.size := by omega
  have g2 : (i : Int) ≤ (s.size : Int) := by omega
  have g3 : (i : Int) < (s.size : Int) := by omega
  have g4 : (0 : Int) ≤ (i : Int) + 1 := by omega
  have g5 : (i : Int) + 1 ≤ (s.size : Int) := by omega
  have g7 : ((i : Int) + 1).toNat = i + 1 := by omega
  have g6 : IntKind.i64.wrap ((i : Int) + 1) = (i : Int) + 1 := IntWalk.i64_in _ (by omega)
  have r1 : ∀ wx : World, (Instr.slice 9 (.string s) none (some (.int .i64 (i : Int))) none).run Try.prog wx = .ok (.string (s.extract 0 i)) wx := fun wx => by
    rw [run_slice_string_to_if (h := Try.underlying9), if_pos ⟨g1, g2⟩]; simp
  have r2 : ∀ wx : World, (Instr.slice 9 (.string s) (some (.int .i64 ((i : Int) + 1))) none none).run Try.prog wx = .ok (.string (s.extract (i + 1) s.size)) wx := fun wx => by
    rw [run_slice_string_from_if (h := Try.underlying9), if_pos ⟨g4, g5⟩, g7]
  have r4 : bits .xor .u8 ((s[i].toNat : Nat) : Int) (q : Int) = ((s[i].toNat ^^^ q : Nat) : Int) := xor_byte _ _ (byte_lt _) hq2
  generalize ((w.alloc (.cells (spoil p q o) 50)).drewN nq) = W at hc1 hb1 hl1
  have r5 : (((sumS (s.extract 0 i ++ ⟨#[s[i] ^^^ UInt8.ofNat q]⟩ ++ s.extract (i + 1) s.size) : Nat) : Int) = ((sumS s : Nat) : Int)) = False := by
    rw [eq_iff_iff, iff_false]
    exact fun h => spoilt_ne s i q hi hq hq2 (by omega)
  have R6 := Lib.hid (show (((sumS (s.extract 0 i ++ ⟨#[s[i] ^^^ UInt8.ofNat q]⟩ ++ s.extract (i + 1) s.size) : Nat) : Int) != ((sumS s : Nat) : Int)) = true by
    rw [bne_iff_ne, ne_eq, r5]; exact fun h => h)
  have z1 : (s.extract 0 i ++ ⟨#[s[i] ^^^ UInt8.ofNat q]⟩ ++ s.extract (i + 1) s.size).size ≤ 9223372036854775806 := by
    have e1 : (⟨#[s[i] ^^^ UInt8.ofNat q]⟩ : ByteArray).size = 1 := rfl
    rw [ByteArray.size_append, ByteArray.size_append, ByteArray.size_extract, ByteArray.size_extract, e1]; omega
  have z2 : s.size ≤ 9223372036854775806 := by omega
  have r3 := conv_one ((s[i].toNat ^^^ q : Nat) : Int) W
  go_region_with (first | (go_at_call 10; refine (sum_s _ _ ?_).mono ?_; (assumption); rintro e w' ⟨rfl, rfl⟩) | (go_at_call 7; refine (awake_any _).mono ?_; rintro e w' ⟨rfl, bel⟩))
  all_goals go_wp2_with fail
  all_goals go_ret
  all_goals refine ⟨congrArg (fun b => Ending.returned (.bool b)) R6.out, ?_⟩
  all_goals exact (below_drewN (hb1.alloc (Nat.le_of_lt hl1) _) 1).trans (bel.mono (by simp; omega))
set_option maxHeartbeats 1600000 in
theorem law_spoil2 (s t o : ByteArray) (p q i : Nat) (h1 : s.size ≤ 600) (h2 : t.size ≤ 600) (h3 : o.size ≤ 600) (hq : 0 < q) (hp : p < 65536) (hq2 : q < 256) (hi : i < s.size) (e7 : (p : Int) % (s.size : Int) = (i : Int)) (hne : sumS s = sumS o) (w : World) :
    Calls Try.prog 6 #[.string s, .string t, .agg (spoil p q o)] w (Yes w) := by
  have a1 := app_size s t h1 h2
  have a2 := app_size o t h3 h2
  have hs0 : ((s.size : Int) == 0) = false := beq_eq_false_iff_ne.2 (by omega)
  have hq0 : ((q : Int) == 0) = false := beq_eq_false_iff_ne.2 (by omega)
  have hd : (((sumS s : Nat) : Int) == ((sumS o : Nat) : Int)) = true := by simp; omega
  have he : ((((sumS (s ++ t) : Nat) : Int)) != ((sumS (o ++ t) : Nat) : Int)) = false := by
    have : sumS (s ++ t) = sumS (o ++ t) := by
      unfold sumS at *
      rw [ByteArray.data_append, ByteArray.data_append, Array.toList_append, Array.toList_append]
      exact sum_same hne
    rw [this]; simp
  clear hne
  go_enter Try.func6, Try.ntmps6
  go_wp2_with fail
  go_quiet ((go_at_call 10; exact Calls.quiet_of_same (sum_q _ _ (by first | omega | assumption))))
  go_wp2_with fail
  have hc1 : ((w.alloc (.cells (spoil p q o) 50)).drewN nq).cell? ⟨w.heap.size, 1, none⟩ = some (.int .u8 q) := by simp
  have hb1 : Below w.heap.size w ((w.alloc (.cells (spoil p q o) 50)).drewN nq) := below_drewN ((Below.refl _ _).alloc (Nat.le_refl _) _) nq
  have hl1 : w.heap.size < ((w.alloc (.cells (spoil p q o) 50)).drewN nq).heap.size := by simp
  rw [e7]
  clear e7
  have g1 : (0 : Int) ≤ (i : Int) := Int.natCast_nonneg _
  have n1 : i ≤ s.size := by omega
  have n2 : i + 1 ≤ s.size := by omega
  have g2 : (i : Int) ≤ (s.size : Int) := by omega
  have g3 : (i : Int) < (s.size : Int) := by omega
  have g4 : (0 : Int) ≤ (i : Int) + 1 := by omega
  have g5 : (i : Int) + 1 ≤ (s.size : Int) := by omega
  have g7 : ((i : Int) + 1).toNat = i + 1 := by omega
  have g6 : IntKind.i64.wrap ((i : Int) + 1) = (i : Int) + 1 := IntWalk.i64_in _ (by omega)
  have r1 : ∀ wx : World, (Instr.slice 9 (.string s) none (some (.int .i64 (i : Int))) none).run Try.prog wx = .ok (.string (s.extract 0 i)) wx := fun wx => by
    rw [run_slice_string_to_if (h := Try.underlying9), if_pos ⟨g1, g2⟩]; simp
  have r2 : ∀ wx : World, (Instr.slice 9 (.string s) (some (.int .i64 ((i : Int) + 1))) none none).run Try.prog wx = .ok (.string (s.extract (i + 1) s.size)) wx := fun wx => by
    rw [run_slice_string_from_if (h := Try.underlying9), if_pos ⟨g4, g5⟩, g7]
  have r4 : bits .xor .u8 ((s[i].toNat : Nat) : Int) (q : Int) = ((s[i].toNat ^^^ q : Nat) : Int) := xor_byte _ _ (byte_lt _) hq2
  generalize ((w.alloc (.cells (spoil p q o) 50)).drewN nq) = W at hc1 hb1 hl1
  have r5 : (((sumS (s.extract 0 i ++ ⟨#[s[i] ^^^ UInt8.ofNat q]⟩ ++ s.extract (i + 1) s.size) : Nat) : Int) = ((sumS s : Nat) : Int)) = False := by
    rw [eq_iff_iff, iff_false]
    exact fun h => spoilt_ne s i q hi hq hq2 (by omega)
  have R6 := Lib.hid (show (((sumS (s.extract 0 i ++ ⟨#[s[i] ^^^ UInt8.ofNat q]⟩ ++ s.extract (i + 1) s.size) : Nat) : Int) != ((sumS s : Nat) : Int)) = true by
    rw [bne_iff_ne, ne_eq, r5]; exact fun h => h)
  have z1 : (s.extract 0 i ++ ⟨#[s[i] ^^^ UInt8.ofNat q]⟩ ++ s.extract (i + 1) s.size).size ≤ 9223372036854775806 := by
    have e1 : (⟨#[s[i] ^^^ UInt8.ofNat q]⟩ : ByteArray).size = 1 := rfl
    rw [ByteArray.size_append, ByteArray.size_append, ByteArray.size_extract, ByteArray.size_extract, e1]; omega
  have z2 : s.size ≤ 9223372036854775806 := by omega
  have r3 := conv_one ((s[i].toNat ^^^ q : Nat) : Int) W
  go_region_with (first | (go_at_call 10; refine (sum_s _ _ ?_).mono ?_; (assumption); rintro e w' ⟨rfl, rfl⟩) | (go_at_call 7; refine (awake_any _).mono ?_; rintro e w' ⟨rfl, bel⟩))
  all_goals go_wp2_with fail
  all_goals go_ret
  all_goals refine ⟨congrArg (fun b => Ending.returned (.bool b)) R6.out, ?_⟩
  all_goals exact (below_drewN (hb1.alloc (Nat.le_of_lt hl1) _) 1).trans (bel.mono (by simp; omega))
theorem law_any (s t o : ByteArray) (p q : Nat) (hp : p < 65536) (hq : q < 256) (w : World) : Calls Try.prog 6 #[.string s, .string t, .agg (spoil p q o)] w (Yes w) := by
  by_cases h1 : 600 < s.size
  · exact law_long1 s t o p q h1 w
  by_cases h2 : 600 < t.size
  · exact law_long2 s t o p q (by omega) h2 w
  by_cases h3 : 600 < o.size
  · exact law_long3 s t o p q (by omega) (by omega) h3 w
  by_cases hz : s.size = 0
  · exact law_none s t o p q (by omega) (by omega) (by omega) (.inl hz) w
  by_cases hq0 : q = 0
  · exact law_none s t o p q (by omega) (by omega) (by omega) (.inr ⟨by omega, by omega⟩) w
  by_cases hne : sumS s = sumS o
  · exact law_spoil2 s t o p q (p % s.size) (by omega) (by omega) (by omega) (by omega) hp hq (Nat.mod_lt _ (by omega)) rfl hne w
  · exact law_spoil s t o p q (p % s.size) (by omega) (by omega) (by omega) (by omega) hp hq (Nat.mod_lt _ (by omega)) rfl hne w
end Go.Proofs.Ytddacegeepgmmaa
