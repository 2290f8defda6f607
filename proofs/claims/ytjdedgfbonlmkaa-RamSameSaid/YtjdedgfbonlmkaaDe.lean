/- The document's memory: Reserve, Read, Bytes, Copy. -/
import Derived.Test.YtjdedgfbonlmkaaDd
import Derived.Test.YtjdedgfbonlmkaaHq
set_option linter.unusedVariables false
set_option linter.unusedSimpArgs false
namespace Go.Proofs.Ytjdedgfbonlmkaa
open Go.RowKit
section
variable {w w' : World} {C N at' wd base : Nat} {l : List UInt8} {L : List Ent} {v0 : Value}
theorem Dm.held (h : Dm w C N at' wd l base L v0) (a v : Nat) (ha : a ≤ 65536) : Dm ((w.setCell ⟨C, 2, none⟩ (.int .u64 a)).setCell ⟨C, 3, none⟩ (.int .i64 v)) C N a v l base L v0 :=
  ⟨box_eq ((h.box.put 2 _).put 3 _) rfl, own_put (own_put h.own h.box (by decide) _ _) (h.box.put 2 _) (by decide) _ _, h.md, h.len, h.top, ha, by have := h.hb; simp [World.setCell]; exact this⟩
set_option maxHeartbeats 1000000 in
theorem dreserve_any (h : Dm w C N at' wd l base L v0) (a : Nat) (v : Int) (ha : a < 18446744073709551616) : Calls Try.prog 35 #[.pointer (some ⟨C, 0, none⟩), .int .u64 a, .int .i64 v] w fun e w' => e = .returned (.bool (resB N a v)) ∧ Dw w w' C N (took (resB N a v) a at') (took (resB N a v) v.toNat wd) l base := by
  have c1 : w.cell? ⟨C, 2, none⟩ = some (.int .u64 at') := h.box.read 2
  have c2 : w.cell? ⟨C, 3, none⟩ = some (.int .i64 wd) := h.box.read 3
  have f1 := h.box.warm 2
  have f2 := h.box.warm 3
  have hN := h.top
  have HH := Lib.hid fun (v : Nat) ha => Dm.held h a v ha
  have HM := Lib.hid h
  by_cases hv : v = 4 ∨ v = 8
  · obtain ⟨n, hn, rfl⟩ : ∃ n : Nat, (n = 4 ∨ n = 8) ∧ v = n := ⟨v.toNat, by omega, by omega⟩
    by_cases hm : a % n = 0
    · by_cases ht : a + n ≤ N
      · have hb : resB N a n = true := decide_eq_true ⟨hv, by omega, by omega⟩
        rw [hb]
        have HT := Lib.hid (fun wx (hx : Dm wx C N at' wd l base L v0) => dthere_any hx a n)
        rw [decide_eq_true ht] at HT
        have HZ := Lib.hid (HH.out n (by omega))
        clear h hb hv HH ht
        obtain rfl | rfl := hn
        all_goals
          first | have hm' : (a : Int) % 8 = 0 := by omega | have hm' : (a : Int) % 4 = 0 := by omega
          clear hm
          go_enter Try.func35, Try.ntmps35
          go_wp2_with (go_at_call 49; refine (HT.out _ HM.out).mono ?_; rintro e w' ⟨rfl, rfl⟩)
          go_ret
          exact ⟨rfl, ⟨_, _, HZ.out⟩, ((Dt.refl C base w).put 2 _).put 3 _⟩
      · have hb : resB N a n = false := decide_eq_false (by omega)
        rw [hb]
        have HT := Lib.hid (fun wx (hx : Dm wx C N at' wd l base L v0) => dthere_any hx a n)
        rw [decide_eq_false ht] at HT
        clear h hb hv HH ht
        obtain rfl | rfl := hn
        all_goals
          first | have hm' : (a : Int) % 8 = 0 := by omega | have hm' : (a : Int) % 4 = 0 := by omega
          clear hm
          go_enter Try.func35, Try.ntmps35
          go_wp2_with (go_at_call 49; refine (HT.out _ HM.out).mono ?_; rintro e w' ⟨rfl, rfl⟩)
          go_ret
          exact ⟨rfl, ⟨_, _, HM.out⟩, Dt.refl _ _ _⟩
    · have hb : resB N a n = false := decide_eq_false (by rintro ⟨_, h2, _⟩; exact hm (by omega))
      rw [hb]
      clear h hb hv HH
      obtain rfl | rfl := hn
      all_goals
        first | have hm' : ((a : Int) % 4 != 0) = true := bne_iff_ne.2 (by omega) | have hm' : ((a : Int) % 8 != 0) = true := bne_iff_ne.2 (by omega)
        clear hm
        go_enter Try.func35, Try.ntmps35
        go_wp2
        go_ret
        exact ⟨rfl, ⟨_, _, HM.out⟩, Dt.refl _ _ _⟩
  · have hb : resB N a v = false := decide_eq_false (by rintro ⟨h2, _⟩; exact hv h2)
    rw [hb]
    have h1 : (v != 4) = true := bne_iff_ne.2 (by omega)
    have h2 : (v != 8) = true := bne_iff_ne.2 (by omega)
    clear h hb hv HH
    go_enter Try.func35, Try.ntmps35
    go_wp2
    go_ret
    exact ⟨rfl, ⟨_, _, HM.out⟩, Dt.refl _ _ _⟩
theorem dbyte_to (h : Dm w C N at' wd l base L v0) (a : Nat) (ha : a < N) (z : Int) (hz : z = a) : Calls Try.prog 50 #[.pointer (some ⟨C, 0, none⟩), .int .u64 z] w fun e w' => e = .returned (.int .u8 (at8 l a : Nat)) ∧ w = w' := by
  subst hz
  rw [h.md.num8 (by rw [h.len]; exact ha)]
  exact dbyte_any h a
theorem num_lt (l : List UInt8) (a : Nat) : ∀ n, num l a n < 256 ^ n
  | 0 => by simp [num]
  | n + 1 => by
    have h := num_lt l a n
    have h2 := at8_lt l (a + n)
    show num l a n + at8 l (a + n) * 256 ^ n < 256 ^ (n + 1)
    rw [Nat.pow_succ]
    have : at8 l (a + n) * 256 ^ n ≤ 255 * 256 ^ n := Nat.mul_le_mul_right _ (by omega)
    omega
theorem sum_shl (x c k : Nat) (hk : k < 8) (hc : c < 256) (hx : x < 256 ^ k) : IntKind.u64.wrap ((x : Int) + IntKind.u64.wrap ((c : Int) * 2 ^ (8 * k))) = ((x + c * 256 ^ k : Nat) : Int) := by
  have e : ((2 : Int) ^ (8 * k)) = ((256 ^ k : Nat) : Int) := by rw [show (256 : Nat) = 2 ^ 8 from rfl, ← Nat.pow_mul]; simp
  rw [e, ← Int.natCast_mul]
  have h1 : c * 256 ^ k ≤ 255 * 256 ^ k := Nat.mul_le_mul_right _ (by omega)
  have h2 : 256 ^ (k + 1) ≤ 256 ^ 8 := Nat.pow_le_pow_right (by decide) (by omega)
  rw [Nat.pow_succ] at h2
  have h3 : (256 : Nat) ^ 8 = 18446744073709551616 := by decide
  generalize c * 256 ^ k = y at *
  generalize 256 ^ k = p at *
  have e1 : IntKind.u64.wrap (y : Int) = (y : Int) := by show (y : Int) % 18446744073709551616 = _; omega
  rw [e1]
  show ((x : Int) + (y : Int)) % 18446744073709551616 = _
  omega
set_option maxHeartbeats 1000000 in
theorem dread_ok (h : Dm w C N at' wd l base L v0) (a n : Nat) (hn : n = 1 ∨ n = 2 ∨ n = 4 ∨ n = 8) (ha : a + n ≤ N) : Calls Try.prog 31 #[.pointer (some ⟨C, 0, none⟩), .int .u64 a, .int .i64 n] w fun e w' => e = .returned (.tuple #[.int .u64 (num l a n : Nat), .bool true]) ∧ w = w' := by
  have H0 := Lib.hid h
  have htop := h.top
  have hw0 : IntKind.u64.wrap (n : Int) = (n : Int) := by show (n : Int) % 18446744073709551616 = _; omega
  have HT := Lib.hid (dthere_any h a n)
  rw [decide_eq_true ha] at HT
  have HWd := Lib.hid (dwidth_any (n : Int) w)
  rw [decide_eq_true (show (n : Int) = 1 ∨ (n : Int) = 2 ∨ (n : Int) = 4 ∨ (n : Int) = 8 by omega)] at HWd
  have hn8 : n ≤ 8 := by omega
  have HN := Lib.hid ha
  clear h hn ha
  go_enter Try.func31, Try.ntmps31
  go_wp2_with (first
    | (go_at_call 48; refine HWd.out.mono ?_; rintro e w' ⟨rfl, rfl⟩)
    | (go_at_call 49; refine HT.out.mono ?_; rintro e w' ⟨rfl, rfl⟩))
  go_loop [8, 9] (fun x i => ∃ k : Nat, k ≤ n ∧ i = .int .i64 k ∧ x = .int .u64 (num l a k : Nat)) (fun _ i => n - (intOf i).toNat)
  case atStart => exact ⟨0, Nat.zero_le _, rfl, rfl⟩
  case round =>
    obtain ⟨k, hk, rfl, rfl⟩ := hrel
    have k1 : (0 : Int) ≤ (k : Int) := Int.natCast_nonneg _
    by_cases hlt : k < n
    · have k2 : (k : Int) < (n : Int) := by omega
      have hw1 : IntKind.u64.wrap (k : Int) = (k : Int) := by show (k : Int) % 18446744073709551616 = _; omega
      have hc := at8_lt l (a + k)
      have hs := sum_shl (num l a k) (at8 l (a + k)) k (by omega) hc (num_lt l a k)
      have HB := Lib.hid (fun z hz => dbyte_to H0.out (a + k) (by have := HN.out; omega) z hz)
      have hnum : num l a (k + 1) = num l a k + at8 l (a + k) * 256 ^ k := rfl
      have HNU := Lib.hid (And.intro hnum hs)
      clear hs hnum
      generalize at8 l (a + k) = c at hc HB HNU
      generalize num l a k = x at HNU ⊢
      go_wp2_with (go_at_call 50; refine (HB.out _ (wrap_sum a k (by have := HN.out; omega))).mono ?_; rintro e w2 ⟨rfl, rfl⟩)
      go_round
      case rel => exact ⟨k + 1, by omega, by go_num, by rw [HNU.out.1]; exact val_eq HNU.out.2⟩
      case measure => simp [intOf]; omega
    · obtain rfl : k = n := by omega
      go_wp2
      go_ret2
      exact ⟨rfl, rfl⟩
theorem dread_bad (h : Dm w C N at' wd l base L v0) (a : Nat) (z : Int) (hb : ¬ ((z = 1 ∨ z = 2 ∨ z = 4 ∨ z = 8) ∧ (a : Int) + z ≤ N)) : Calls Try.prog 31 #[.pointer (some ⟨C, 0, none⟩), .int .u64 a, .int .i64 z] w fun e w' => e = .returned (.tuple #[.int .u64 0, .bool false]) ∧ w = w' := by
  by_cases hz : z = 1 ∨ z = 2 ∨ z = 4 ∨ z = 8
  · obtain ⟨n, rfl⟩ : ∃ n : Nat, z = n := ⟨z.toNat, by omega⟩
    have hw0 : IntKind.u64.wrap (n : Int) = (n : Int) := by show (n : Int) % 18446744073709551616 = _; omega
    have HT := Lib.hid (dthere_any h a n)
    rw [decide_eq_false (show ¬ a + n ≤ N by omega)] at HT
    have HWd := Lib.hid (dwidth_any (n : Int) w)
    rw [decide_eq_true hz] at HWd
    clear h hb hz
    go_enter Try.func31, Try.ntmps31
    go_wp2_with (first
      | (go_at_call 48; refine HWd.out.mono ?_; rintro e w' ⟨rfl, rfl⟩)
      | (go_at_call 49; refine HT.out.mono ?_; rintro e w' ⟨rfl, rfl⟩))
    go_ret2
    exact ⟨rfl, rfl⟩
  · have HWd := Lib.hid (dwidth_any z w)
    rw [decide_eq_false hz] at HWd
    clear h hb hz
    go_enter Try.func31, Try.ntmps31
    go_wp2_with (go_at_call 48; refine HWd.out.mono ?_; rintro e w' ⟨rfl, rfl⟩)
    go_ret2
    exact ⟨rfl, rfl⟩
end
end Go.Proofs.Ytjdedgfbonlmkaa
