/- The document's memory: Write. -/
import Derived.Test.YtjdedgfbonlmkaaDc
set_option linter.unusedVariables false
set_option linter.unusedSimpArgs false
namespace Go.Proofs.Ytjdedgfbonlmkaa
open Go.RowKit
theorem hit_step (at' wd a n : Nat) : gone (hitB at' (gone (endB at' a n) wd) (a + n)) (gone (endB at' a n) wd) = gone (endB at' a (n + 1)) wd := by
  unfold gone hitB endB
  simp only [decide_eq_true_eq]
  by_cases h1 : 0 < n ∧ a < at' - at' % 8 + 8 ∧ at' - at' % 8 < a + n
  · rw [if_pos h1, if_neg (by omega), if_pos (by omega)]
  · rw [if_neg h1]
    by_cases h2 : 0 < wd ∧ (a + n) / 8 = at' / 8
    · rw [if_pos h2, if_pos (by omega)]
    · rw [if_neg h2]
      by_cases h3 : 0 < n + 1 ∧ a < at' - at' % 8 + 8 ∧ at' - at' % 8 < a + (n + 1)
      · rw [if_pos h3]; omega
      · rw [if_neg h3]
theorem hit_zero (at' wd a : Nat) : gone (endB at' a 0) wd = wd := by unfold gone endB; rw [if_neg (by simp)]
section
variable {w w' : World} {C N at' wd base : Nat} {l : List UInt8} {L : List Ent} {v : Value}
theorem dset_to (h : Dm w C N at' wd l base L v) (a : Nat) (ha : a < N) (c : UInt8) (z1 z2 : Int) (h1 : z1 = a) (h2 : z2 = (c.toNat : Int)) : Calls Try.prog 51 #[.pointer (some ⟨C, 0, none⟩), .int .u64 z1, .int .u8 z2] w fun e w' => e = .returned (.tuple #[]) ∧ (∃ v', Dm w' C N at' (gone (hitB at' wd a) wd) (l.set a c) base (dset L a c) v') ∧ Dt C base w w' := by
  subst h1 h2
  exact dset_any h a ha c
theorem byte_shr (x k : Nat) : ((x : Int) / 2 ^ (8 * k)).tmod 256 % 256 = ((byteN x k).toNat : Int) := by
  have e : ((2 : Int) ^ (8 * k)) = ((256 ^ k : Nat) : Int) := by rw [show (256 : Nat) = 2 ^ 8 from rfl, ← Nat.pow_mul]; simp
  rw [byteN_val, e, ← Int.natCast_ediv, Int.tmod_eq_emod_of_nonneg (Int.natCast_nonneg _)]
  omega
theorem wrap_sum (a k : Nat) (h : a + k < 18446744073709551616) : IntKind.u64.wrap ((a : Int) + (k : Int)) = ((a + k : Nat) : Int) := by show ((a : Int) + (k : Int)) % 18446744073709551616 = _; omega
/-- The document's memory behind some bytes. -/
structure Dw (w wr : World) (C N at' wd : Nat) (l : List UInt8) (base : Nat) : Prop where
  m : ∃ L v, Dm wr C N at' wd l base L v
  t : Dt C base w wr
set_option maxHeartbeats 1000000 in
theorem dwrite_ok (h : Dm w C N at' wd l base L v) (a x n : Nat) (hn : n = 1 ∨ n = 2 ∨ n = 4 ∨ n = 8) (hx : x < 18446744073709551616) (ha : a + n ≤ N) : Calls Try.prog 32 #[.pointer (some ⟨C, 0, none⟩), .int .u64 a, .int .u64 x, .int .i64 n] w fun e w' => e = .returned (.bool true) ∧ Dw w w' C N at' (gone (endB at' a n) wd) (asc l a (byteN x) n) base := by
  have H0 := Lib.hid h
  have htop := h.top
  have hw0 : IntKind.u64.wrap (n : Int) = (n : Int) := by show (n : Int) % 18446744073709551616 = _; omega
  have HT := Lib.hid (dthere_any h a n)
  rw [decide_eq_true ha] at HT
  have HWd := Lib.hid (dwidth_any (n : Int) w)
  rw [decide_eq_true (show (n : Int) = 1 ∨ (n : Int) = 2 ∨ (n : Int) = 4 ∨ (n : Int) = 8 by omega)] at HWd
  have hn8 : n ≤ 8 := by omega
  have HN := Lib.hid (And.intro hn (And.intro ha h.len))
  clear h hn ha
  go_enter Try.func32, Try.ntmps32
  go_wp2_with (first
    | (go_at_call 48; refine HWd.out.mono ?_; rintro e w' ⟨rfl, rfl⟩)
    | (go_at_call 49; refine HT.out.mono ?_; rintro e w' ⟨rfl, rfl⟩))
  go_loopw [9] (fun i wr => ∃ k : Nat, k ≤ n ∧ i = .int .i64 k ∧ Dw w wr C N at' (gone (endB at' a k) wd) (asc l a (byteN x) k) base) (fun i _ => n - (intOf i).toNat)
  case atStart => exact ⟨0, Nat.zero_le _, rfl, ⟨_, _, by rw [hit_zero]; exact H0.out⟩, Dt.refl _ _ _⟩
  case round =>
    obtain ⟨k, hk, rfl, hst⟩ := hrel
    have k1 : (0 : Int) ≤ (k : Int) := Int.natCast_nonneg _
    have HS := Lib.hid hst
    clear hst
    by_cases hlt : k < n
    · have k2 : (k : Int) < (n : Int) := by omega
      have hw1 : IntKind.u64.wrap (k : Int) = (k : Int) := by show (k : Int) % 18446744073709551616 = _; omega
      obtain ⟨L1, v1, hm⟩ := HS.out.m
      have HM := Lib.hid hm
      clear hm
      go_wp2_with (go_at_call 51; refine (dset_to HM.out (a + k) (by have := HN.out.2.1; omega) (byteN x k) _ _ (wrap_sum a k (by have := HN.out.2.1; omega)) (byte_shr x k)).mono ?_; rintro e w2 ⟨rfl, ⟨v2, hz⟩, ht⟩; have HZ := Lib.hid (show Dw w w2 C N at' _ _ base from ⟨⟨_, v2, hz⟩, HS.out.t.trans ht⟩); clear hz ht)
      go_roundw
      case rel => exact ⟨k + 1, by omega, by go_num, by rw [← hit_step]; exact HZ.out⟩
      case measure => simp [intOf]; omega
    · obtain rfl : k = n := by omega
      go_wp2
      go_ret
      exact ⟨rfl, HS.out⟩
theorem dwrite_bad (h : Dm w C N at' wd l base L v) (a x : Nat) (z : Int) (hb : ¬ ((z = 1 ∨ z = 2 ∨ z = 4 ∨ z = 8) ∧ (a : Int) + z ≤ N)) : Calls Try.prog 32 #[.pointer (some ⟨C, 0, none⟩), .int .u64 a, .int .u64 x, .int .i64 z] w fun e w' => e = .returned (.bool false) ∧ w = w' := by
  by_cases hz : z = 1 ∨ z = 2 ∨ z = 4 ∨ z = 8
  · obtain ⟨n, rfl⟩ : ∃ n : Nat, z = n := ⟨z.toNat, by omega⟩
    have hw0 : IntKind.u64.wrap (n : Int) = (n : Int) := by show (n : Int) % 18446744073709551616 = _; omega
    have HT := Lib.hid (dthere_any h a n)
    rw [decide_eq_false (show ¬ a + n ≤ N by omega)] at HT
    have HWd := Lib.hid (dwidth_any (n : Int) w)
    rw [decide_eq_true hz] at HWd
    clear h hb hz
    go_enter Try.func32, Try.ntmps32
    go_wp2_with (first
      | (go_at_call 48; refine HWd.out.mono ?_; rintro e w' ⟨rfl, rfl⟩)
      | (go_at_call 49; refine HT.out.mono ?_; rintro e w' ⟨rfl, rfl⟩))
    go_ret
    exact ⟨rfl, rfl⟩
  · have HWd := Lib.hid (dwidth_any z w)
    rw [decide_eq_false hz] at HWd
    clear h hb hz
    go_enter Try.func32, Try.ntmps32
    go_wp2_with (go_at_call 48; refine HWd.out.mono ?_; rintro e w' ⟨rfl, rfl⟩)
    go_ret
    exact ⟨rfl, rfl⟩
theorem dwrite_any (h : Dm w C N at' wd l base L v) (a x : Nat) (z : Int) (hx : x < 18446744073709551616) : Calls Try.prog 32 #[.pointer (some ⟨C, 0, none⟩), .int .u64 a, .int .u64 x, .int .i64 z] w fun e w' => e = .returned (.bool (wrB N a z)) ∧ Dw w w' C N at' (gone (wrB N a z && endB at' a z.toNat) wd) (if wrB N a z = true then lay l a x z.toNat else l) base := by
  by_cases hb : (z = 1 ∨ z = 2 ∨ z = 4 ∨ z = 8) ∧ (a : Int) + z ≤ N
  · have e : wrB N a z = true := decide_eq_true hb
    obtain ⟨n, rfl⟩ : ∃ n : Nat, z = n := ⟨z.toNat, by omega⟩
    rw [e, Bool.true_and, if_pos rfl, Int.toNat_natCast, lay_asc l a x n (by have := h.len; omega)]
    exact dwrite_ok h a x n (by omega) hx (by omega)
  · have e : wrB N a z = false := decide_eq_false hb
    rw [e, Bool.false_and, if_neg (by decide)]
    refine (dwrite_bad h a x z hb).mono ?_
    rintro e w' ⟨rfl, rfl⟩
    exact ⟨rfl, ⟨_, _, h⟩, Dt.refl _ _ _⟩
set_option maxHeartbeats 1000000 in
theorem dput_ok (h : Dm w C N at' wd l base L v) (a : Nat) (s : ByteArray) (ha : a + s.size ≤ N) : Calls Try.prog 33 #[.pointer (some ⟨C, 0, none⟩), .int .u64 a, .string s] w fun e w' => e = .returned (.int .i64 0) ∧ Dw w w' C N at' (gone (endB at' a s.size) wd) (asc l a (fun k => s.data.toList.getD k 0) s.size) base := by
  have H0 := Lib.hid h
  have htop := h.top
  have hs : s.size ≤ 65536 := by omega
  have hw0 : IntKind.u64.wrap (s.size : Int) = (s.size : Int) := by show (s.size : Int) % 18446744073709551616 = _; omega
  have HT := Lib.hid (dthere_any h a s.size)
  rw [decide_eq_true ha] at HT
  have HN := Lib.hid (And.intro ha h.len)
  clear h ha
  go_enter Try.func33, Try.ntmps33
  go_wp2_with (go_at_call 49; refine HT.out.mono ?_; rintro e w' ⟨rfl, rfl⟩)
  go_loopw [7] (fun i wr => ∃ k : Nat, k ≤ s.size ∧ i = .int .i64 k ∧ Dw w wr C N at' (gone (endB at' a k) wd) (asc l a (fun k => s.data.toList.getD k 0) k) base) (fun i _ => s.size - (intOf i).toNat)
  case atStart => exact ⟨0, Nat.zero_le _, rfl, ⟨_, _, by rw [hit_zero]; exact H0.out⟩, Dt.refl _ _ _⟩
  case round =>
    obtain ⟨k, hk, rfl, hst⟩ := hrel
    have k1 : (0 : Int) ≤ (k : Int) := Int.natCast_nonneg _
    have HS := Lib.hid hst
    clear hst
    by_cases hlt : k < s.size
    · have k2 : (k : Int) < (s.size : Int) := by omega
      have hw1 : IntKind.u64.wrap (k : Int) = (k : Int) := by show (k : Int) % 18446744073709551616 = _; omega
      obtain ⟨L1, v1, hm⟩ := HS.out.m
      have HM := Lib.hid hm
      clear hm
      have hcb : (s[k]'hlt) = s.data.toList.getD k 0 := by
        rw [List.getD_eq_getElem?_getD, List.getElem?_eq_getElem (show k < s.data.toList.length from hlt)]
        rfl
      have HCB := Lib.hid hcb
      clear hcb
      go_wp2_with (go_at_call 51; refine (dset_to HM.out (a + k) (by have := HN.out.1; omega) (s.data.toList.getD k 0) _ _ (wrap_sum a k (by have := HN.out.1; omega)) (by rw [← HCB.out])).mono ?_; rintro e w2 ⟨rfl, ⟨v2, hz⟩, ht⟩; have HZ := Lib.hid (show Dw w w2 C N at' _ _ base from ⟨⟨_, v2, hz⟩, HS.out.t.trans ht⟩); clear hz ht)
      go_roundw
      case rel => exact ⟨k + 1, by omega, by go_num, by rw [← hit_step]; exact HZ.out⟩
      case measure => simp [intOf]; omega
    · obtain rfl : k = s.size := by omega
      go_wp2
      go_ret
      exact ⟨rfl, HS.out⟩
theorem dput_any (h : Dm w C N at' wd l base L v) (a : Nat) (s : ByteArray) (hs : s.size ≤ 9223372036854775807) : Calls Try.prog 33 #[.pointer (some ⟨C, 0, none⟩), .int .u64 a, .string s] w fun e w' => e = .returned (.int .i64 (putE (putB N a s.size))) ∧ Dw w w' C N at' (gone (putB N a s.size && endB at' a s.size) wd) (if putB N a s.size = true then splice l a s.data.toList else l) base := by
  by_cases hb : a + s.size ≤ N
  · have e : putB N a s.size = true := decide_eq_true hb
    rw [e, Bool.true_and, if_pos rfl, splice_asc l s.data.toList a (by rw [h.len, dsz]; exact hb), dsz]
    exact dput_ok h a s hb
  · have e : putB N a s.size = false := decide_eq_false hb
    rw [e, Bool.false_and, if_neg (by decide)]
    have hw0 : IntKind.u64.wrap (s.size : Int) = (s.size : Int) := by show (s.size : Int) % 18446744073709551616 = _; omega
    have HT := Lib.hid (dthere_any h a s.size)
    rw [decide_eq_false hb] at HT
    have H0 := Lib.hid h
    clear h hb e
    go_enter Try.func33, Try.ntmps33
    go_wp2_with (go_at_call 49; refine HT.out.mono ?_; rintro e w' ⟨rfl, rfl⟩)
    go_ret
    exact ⟨rfl, ⟨_, _, H0.out⟩, Dt.refl _ _ _⟩
theorem dheld_any (h : Dm w C N at' wd l base L v) (a : Nat) (z : Int) : Calls Try.prog 18 #[.pointer (some ⟨C, 0, none⟩), .int .u64 a, .int .i64 z] w fun e w' => e = .returned (.bool (decide (0 < wd ∧ at' = a ∧ (wd : Int) = z))) ∧ w = w' := by
  have c2 : w.cell? ⟨C, 2, none⟩ = some (.int .u64 at') := h.box.read 2
  have c3 : w.cell? ⟨C, 3, none⟩ = some (.int .i64 wd) := h.box.read 3
  clear h
  by_cases h1 : 0 < wd
  · by_cases h2 : at' = a
    · subst h2
      by_cases h3 : (wd : Int) = z
      · subst h3
        go_enter Try.func18, Try.ntmps18
        go_wp2
        go_ret
        exact ⟨bool_eq (by simp; omega), rfl⟩
      · have q3 : ((wd : Int) == z) = false := beq_eq_false_iff_ne.2 h3
        go_enter Try.func18, Try.ntmps18
        go_wp2
        go_ret
        exact ⟨bool_eq (by simp; omega), rfl⟩
    · have q2 : ((at' : Int) == (a : Int)) = false := beq_eq_false_iff_ne.2 (by omega)
      have q3 : ¬ ((at' : Int) = (a : Int)) := by omega
      go_enter Try.func18, Try.ntmps18
      go_wp2
      go_ret
      exact ⟨bool_eq (by simp; omega), rfl⟩
  · obtain rfl : wd = 0 := by omega
    go_enter Try.func18, Try.ntmps18
    go_wp2
    go_ret
    exact ⟨bool_eq (by simp), rfl⟩
theorem dclear_any (h : Dm w C N at' wd l base L v) : Calls Try.prog 36 #[.pointer (some ⟨C, 0, none⟩)] w fun e w' => e = .returned (.tuple #[]) ∧ Dw w w' C N at' 0 (List.replicate N 0) base := by
  have f1 := h.box.warm 1
  have f3 := h.box.warm 3
  have H0 := Lib.hid h
  have c1 := h.box.read 1
  have c3 := h.box.read 3
  clear h
  go_enter Try.func36, Try.ntmps36
  go_wp2
  go_end0
  refine ⟨rfl, ⟨[], .slice none 0 0, ⟨box_eq ((H0.out.box.put 1 _).put 3 _) rfl, World.ownsRow_nil _ _ _ _, Md.nil N, by simp, H0.out.top, H0.out.at1, by have := H0.out.hb; simp [World.setCell]; exact this⟩⟩, ((Dt.refl C base w).put 1 _).put 3 _⟩
end
end Go.Proofs.Ytjdedgfbonlmkaa
