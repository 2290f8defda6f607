/- CodecPuts' body. -/
import Derived.Test.YtddacegeepgmmaaE
import Derived.Test.YtddacegeepgmmaaB
import Derived.Deep.RegionWith
set_option linter.unusedVariables false
set_option linter.unusedSimpArgs false
namespace Go.Proofs.Ytddacegeepgmmaa
open Go.RowKit

theorem put_empty (a : Option Addr) (cap : Nat) (w : World) : Calls Try.prog 9 #[.slice a 0 cap] w fun e w' => e = .returned (.string (str [])) ∧ Below w.heap.size w w' := by
  have r1 : ∀ wx : World, (convert 51 9 (.slice none 0 0)).run Try.prog wx = .ok (.string (str [])) wx := fun wx =>
    run_convert_bytes_nil (P := Try.prog) wx 51 5 Try.underlying51 Try.underlying5 0 0 9 Try.underlying9
  go_enter Try.func9, Try.ntmps9
  go_wp2
  refine wp_loop_rounds 1 ?_
  rw [rounds_succ]
  go_wp2
  go_ret
  exact ⟨rfl, Below.refl _ _⟩
def Gone (w : World) (e : Ending) (w' : World) : Prop := Yes w e w'
theorem puts_long (a : Option Addr) (len cap : Nat) (s : ByteArray) (h : 100 < len) (w : World) : Calls Try.prog 3 #[.slice a len cap, .string s] w (Yes w) := by
  go_enter Try.func3, Try.ntmps3
  go_wp2_with (go_at_call 7; refine (awake_any _).mono ?_; rintro e w' ⟨rfl, bel⟩)
  go_ret
  exact ⟨rfl, bel⟩
theorem puts_long2 (a : Option Addr) (len cap : Nat) (s : ByteArray) (h : len ≤ 100) (h2 : 3000 < s.size) (w : World) : Calls Try.prog 3 #[.slice a len cap, .string s] w (Yes w) := by
  go_enter Try.func3, Try.ntmps3
  go_wp2_with (go_at_call 7; refine (awake_any _).mono ?_; rintro e w' ⟨rfl, bel⟩)
  go_ret
  exact ⟨rfl, bel⟩
theorem IsFlds.later {w w' : World} {a : Option Addr} {len : Nat} {l : List Fld} (h : IsFlds w a len l) (hb : Below w.heap.size w w') : IsFlds w' a len l := by
  refine ⟨h.1, fun k f hf => ?_⟩
  obtain ⟨b, off, h1, h2, h3, h4, h5⟩ := h.2 k f hf
  exact ⟨b, off, h1, Nat.lt_of_lt_of_le h2 hb.size, (hb.cell (by exact h2)).trans h3, (hb.cell (by exact h2)).trans h4, h5⟩
theorem put_flds (a : Option Addr) (len cap : Nat) (l : List Fld) (w : World) (hl : len ≤ 1000) (h : IsFlds w a len l) : Calls Try.prog 9 #[.slice a len cap] w fun e w' => e = .returned (.string (str (bytesOf l))) ∧ Below w.heap.size w w' := by
  by_cases h0 : len = 0
  · subst h0
    have : l = [] := List.eq_nil_of_length_eq_zero h.1
    subst this
    exact put_empty a cap w
  · have hlen := h.1
    obtain ⟨b, off, rfl, hb, _⟩ := h.2 0 _ (List.getElem?_eq_getElem (show 0 < l.length by omega))
    refine put_any b off len cap l w hlen hl hb fun k f hf => ?_
    obtain ⟨b', off', e, _, h3, h4, h5⟩ := h.2 k f hf
    simp only [Option.some.injEq, Addr.mk.injEq, and_true] at e
    obtain ⟨rfl, rfl⟩ := e
    exact ⟨h3, h4, h5⟩
theorem str_app (a b : List UInt8) : str a ++ str b = str (a ++ b) := by
  apply ByteArray.ext
  simp [str, ByteArray.data_append]
theorem str_size (a : List UInt8) : (str a).size = a.length := rfl
set_option maxHeartbeats 3200000 in
theorem puts_any (a : Option Addr) (len cap : Nat) (l : List Fld) (s : ByteArray) (hl : len ≤ 100) (hs : s.size ≤ 3000) (w : World) (hf : IsFlds w a len l) : Calls Try.prog 3 #[.slice a len cap, .string s] w (Yes w) := by
  have hlen := Lib.hid hf.1
  go_enter Try.func3, Try.ntmps3
  go_wp2
  go_loopw [5, 6] (fun v i wr => ∃ k : Nat, k ≤ len ∧ i = .int .i64 k ∧ v = .string (str (bytesOf (l.take k))) ∧ Below w.heap.size w wr) (fun _ i _ => len - (intOf i).toNat)
  case atStart => exact ⟨0, Nat.zero_le _, rfl, rfl, Below.refl _ _⟩
  case round =>
    obtain ⟨k, hk, rfl, rfl, bel⟩ := hrel
    have hz := bel.size
    have hb8 := bytesOf_len (l.take k)
    have hb9 : (l.take k).length ≤ 100 := by simp; omega
    by_cases hlt : k < len
    · obtain ⟨f, hk2⟩ : ∃ f, l[k]? = some f := ⟨_, List.getElem?_eq_getElem (by have := hlen.out; omega)⟩
      obtain ⟨b, off, rfl, hb, c0, c1, hn⟩ := hf.2 k f hk2
      have d0 : wr.cell? ⟨b, off + k * 2, none⟩ = some (.int .u64 f.n) := by rw [Nat.mul_comm]; exact (bel.cell (by exact hb)).trans c0
      have d1 : wr.cell? ⟨b, off + k * 2 + 1, none⟩ = some (.int .i64 f.v) := by rw [Nat.mul_comm]; exact (bel.cell (by exact hb)).trans c1
      have et : l.take (k + 1) = l.take k ++ [f] := by rw [List.take_add_one, hk2]; rfl
      have ea : str (bytesOf (l.take k)) ++ str (byt (wid f.v) f.n) = str (bytesOf (l.take (k + 1))) := by rw [str_app, et, bytesOf_snoc]
      have hsz : ¬ (9223372036854775807 < (str (bytesOf (l.take k))).size + (str (byt (wid f.v) f.n)).size) := by
        have := (wid_bd f.v).2
        rw [str_size, str_size, byt_len]; omega
      have k1 : (0 : Int) ≤ (k : Int) := Int.natCast_nonneg _
      have k2 : (k : Int) < (len : Int) := by omega
      have HB := Lib.hid (And.intro bel ea)
      have HF := Lib.hid hf
      clear c0 c1 et ea bel hf hk2
      go_wp2
      go_region_with ((go_at_call 8; refine (bytes_any _ _ hn _).mono ?_; rintro e w2 ⟨rfl, bel2⟩))
      all_goals go_wp2
      all_goals
        go_roundw
        case rel => exact ⟨k + 1, by omega, by go_num, congrArg Value.string HB.out.2, (below_drewN HB.out.1 1).trans (bel2.mono hz)⟩
        case measure => simp [intOf]; omega
    · have et : l.take k = l := List.take_of_length_le (by have := hlen.out; omega)
      rw [et]
      have p1 := fun wx (hx : Below w.heap.size w wx) => put_flds a len cap l wx (by omega) (hf.later hx)
      have HP := Lib.hid (And.intro p1 bel)
      clear p1 bel hf et hb8 hb9
      go_wp2_with (first | (go_at_call 9; refine (HP.out.1 _ HP.out.2).mono ?_; rintro e w1 ⟨rfl, bel1⟩) | (go_at_call 10; refine (sum_any _ _ (by omega)).mono ?_; rintro e w' ⟨rfl, rfl⟩) | (go_at_call 11; refine (rsum_any _ _ (by omega)).mono ?_; rintro e w' ⟨rfl, rfl⟩) | (go_at_call 7; refine (awake_any _).mono ?_; rintro e w9 ⟨rfl, bel9⟩))
      go_ret
      exact ⟨rfl, (HP.out.2.trans (bel1.mono hz)).trans (bel9.mono (by have := bel1.size; omega))⟩
end Go.Proofs.Ytddacegeepgmmaa
