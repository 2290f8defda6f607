/- The document's Text. -/
import Derived.Test.YtnfnhhphoiebbaaDoorGf
set_option linter.unusedVariables false
set_option linter.unusedSimpArgs false
namespace Go.Proofs.YtnfnhhphoiebbaaDoor
open Go.RowKit
theorem tx_bound {w : World} {a : Option Addr} {n : Nat} {l : List Win} (hf : IsWins w a n l) : ∀ (k : Nat) (f : Win), l[k]? = some f → f.1 < 256 ∧ f.2 < 65536 := fun k f hk => (win_at hf hk).1
set_option maxHeartbeats 2000000 in
theorem dtext_any {w : World} {a : Option Addr} {n cap : Nat} {l : List Win} (hf : IsWins w a n l) (hn : n ≤ 60) : Calls Tryd.prog 11 #[.slice a n cap] w fun e w' => e = .returned (.string (st (txL l))) ∧ Below w.heap.size w w' := by
  have HF := Lib.hid hf
  have HL := Lib.hid hf.1
  have HT := Lib.hid (txL_len (tx_bound hf))
  clear hf
  go_enter Tryd.func11, Tryd.ntmps11
  go_wp2
  go_loopw [3, 4] (fun v i wr => ∃ k : Nat, k ≤ n ∧ i = .int .i64 k ∧ v = .string (st (txL (l.take k))) ∧ Below w.heap.size w wr) (fun _ i _ => n - (intOf i).toNat)
  case atStart => exact ⟨0, Nat.zero_le _, rfl, by simp [txL, Lib.join_nil, st], Below.refl _ _⟩
  case round =>
    obtain ⟨k, hk, rfl, rfl, hst⟩ := hrel
    have k1 : (0 : Int) ≤ (k : Int) := Int.natCast_nonneg _
    have HS := Lib.hid hst
    clear hst
    by_cases hlt : k < n
    · have k2 : (k : Int) < (n : Int) := by omega
      obtain ⟨⟨f1, f2⟩, hkf⟩ : ∃ f, l[k]? = some f := ⟨_, List.getElem?_eq_getElem (by rw [HL.out]; exact hlt)⟩
      obtain ⟨⟨b1, b2⟩, bk, off, rfl, hc⟩ := win_at HF.out hkf
      dsimp only at b1 b2 hc
      have hnx := txL_next hkf
      have htl := HT.out k
      have hg1 : (gL f1).length ≤ 20 := gL_len b1
      have hd2 : (Lib.decDigits f2).length ≤ 20 := digs_len (by omega)
      have hz : k = 0 → txL (l.take k) = [] := fun e => by subst e; simp [txL, Lib.join_nil]
      have HC := Lib.hid hc
      have HN := Lib.hid (And.intro hnx (And.intro hlt hz))
      obtain ⟨c0, c1⟩ := hc wr HS.out
      have D1 := Lib.hid (fun wx => digits_any f1 (by omega) wx)
      have D2 := Lib.hid (fun wx => digits_any f2 (by omega) wx)
      clear hc hkf hnx hz
      generalize txL (l.take k) = t at htl HN ⊢
      have q1 : (f1 : Int) < 256 := by omega
      have q2 : (f2 : Int) < 65536 := by omega
      have q3 : (0 : Int) ≤ (f1 : Int) := Int.natCast_nonneg _
      have q4 : (0 : Int) ≤ (f2 : Int) := Int.natCast_nonneg _
      generalize hdl : Lib.decDigits f2 = d2 at hd2 D2
      by_cases hk0 : k = 0
      · have e0 : decide (0 < k) = false := decide_eq_false (by omega)
        obtain ⟨ta, hta⟩ : ∃ ta, ta = t ++ gL f1 := ⟨_, rfl⟩
        obtain ⟨tb, htb⟩ : ∃ tb, tb = ta ++ [58] := ⟨_, rfl⟩
        obtain ⟨tc, htc⟩ : ∃ tc, tc = tb ++ d2 := ⟨_, rfl⟩
        have x1 : ¬ 9223372036854775807 < (st ta).size + 1 := by rw [st_size, hta, List.length_append]; omega
        have x2 : ¬ 9223372036854775807 < (st tb).size + (st d2).size := by rw [st_size, st_size, htb, hta, List.length_append, List.length_append]; simp only [List.length_cons, List.length_nil]; omega
        have x3 : st ta ++ (⟨#[58]⟩ : ByteArray) = st tb := by rw [htb]; exact st_app _ [58]
        have x4 : st tb ++ st d2 = st tc := by rw [htc]; exact st_app _ _
        have x5 : ¬ 9223372036854775807 < (st t).size + (st (gL f1)).size := by rw [st_size, st_size]; omega
        have x6 : st t ++ st (gL f1) = st ta := by rw [hta]; exact st_app _ _
        have HE : Hid (txL (l.take (k + 1)) = tc) := Lib.hid (by rw [htc, htb, hta, HN.out.1, if_pos hk0, HN.out.2.2 hk0, ← hdl]; simp [itL])
        have HK := Lib.hid hk0
        clear hdl htl hg1 hd2 hk0 htc htb
        by_cases h255 : f1 = 255
        · have e1 : ((f1 : Int) == 255) = true := by simp [h255]
          have x7 : gL f1 = [45] := if_pos h255
          have x8 : ¬ 9223372036854775807 < (st t).size + 1 := by have := x5; rw [x7] at this; exact this
          have x9 : st t ++ (⟨#[45]⟩ : ByteArray) = st ta := by rw [hta, x7]; exact st_app t [45]
          clear x7 x5 x6 h255 hta
          generalize gL f1 = gl at *
          go_wp2_with (go_at_call 27; refine (D2.out _).mono ?_; rintro e w1 ⟨rfl, hb⟩; have H1 := Lib.hid (HS.out.trans (hb.mono HS.out.size)); clear hb)
          go_roundw
          case rel => exact ⟨k + 1, by have := HN.out.2.1; omega, by go_num, by rw [HE.out], H1.out⟩
          case measure => simp [intOf]; have := HN.out.2.1; omega
        · have e1 : ((f1 : Int) == 255) = false := beq_eq_false_iff_ne.2 (by omega)
          have x7 : gL f1 = Lib.decDigits f1 := if_neg h255
          rw [← x7] at D1
          clear x7 h255 hta
          generalize gL f1 = gl at *
          go_wp2_with (first
            | (go_at_call 27; have Hx := H1; clear Hx; refine (D2.out _).mono ?_; rintro e w2 ⟨rfl, hb⟩; have H2 := Lib.hid (H1.out.trans (hb.mono H1.out.size)); clear hb)
            | (go_at_call 27; refine (D1.out _).mono ?_; rintro e w1 ⟨rfl, hb⟩; have H1 := Lib.hid (HS.out.trans (hb.mono HS.out.size)); clear hb; have c2 := (HC.out _ H1.out).2))
          go_roundw
          case rel => exact ⟨k + 1, by have := HN.out.2.1; omega, by go_num, by rw [HE.out], H2.out⟩
          case measure => simp [intOf]; have := HN.out.2.1; omega
      · have e0 : decide (0 < k) = true := decide_eq_true (by omega)
        have z1 : ¬ 9223372036854775807 < (st t).size + 1 := by rw [st_size]; omega
        have z2 : st t ++ (⟨#[32]⟩ : ByteArray) = st (t ++ [32]) := st_app _ [32]
        have HE0 : Hid (txL (l.take (k + 1)) = t ++ [32] ++ gL f1 ++ [58] ++ d2) := Lib.hid (by rw [HN.out.1, if_neg hk0, ← hdl]; simp [itL])
        have htl2 : (t ++ [32]).length ≤ 42 * k + 1 := by rw [List.length_append]; simp only [List.length_cons, List.length_nil]; omega
        generalize t ++ [32] = t at z2 HE0 htl2
        obtain ⟨ta, hta⟩ : ∃ ta, ta = t ++ gL f1 := ⟨_, rfl⟩
        obtain ⟨tb, htb⟩ : ∃ tb, tb = ta ++ [58] := ⟨_, rfl⟩
        obtain ⟨tc, htc⟩ : ∃ tc, tc = tb ++ d2 := ⟨_, rfl⟩
        have x1 : ¬ 9223372036854775807 < (st ta).size + 1 := by rw [st_size, hta, List.length_append]; omega
        have x2 : ¬ 9223372036854775807 < (st tb).size + (st d2).size := by rw [st_size, st_size, htb, hta, List.length_append, List.length_append]; simp only [List.length_cons, List.length_nil]; omega
        have x3 : st ta ++ (⟨#[58]⟩ : ByteArray) = st tb := by rw [htb]; exact st_app _ [58]
        have x4 : st tb ++ st d2 = st tc := by rw [htc]; exact st_app _ _
        have x5 : ¬ 9223372036854775807 < (st t).size + (st (gL f1)).size := by rw [st_size, st_size]; omega
        have x6 : st t ++ st (gL f1) = st ta := by rw [hta]; exact st_app _ _
        have HE : Hid (txL (l.take (k + 1)) = tc) := Lib.hid (by rw [HE0.out, htc, htb, hta])
        have HK := Lib.hid hk0
        clear hdl htl htl2 hg1 hd2 hk0 htc htb
        by_cases h255 : f1 = 255
        · have e1 : ((f1 : Int) == 255) = true := by simp [h255]
          have x7 : gL f1 = [45] := if_pos h255
          have x8 : ¬ 9223372036854775807 < (st t).size + 1 := by have := x5; rw [x7] at this; exact this
          have x9 : st t ++ (⟨#[45]⟩ : ByteArray) = st ta := by rw [hta, x7]; exact st_app t [45]
          clear x7 x5 x6 h255 hta
          generalize gL f1 = gl at *
          go_wp2_with (go_at_call 27; refine (D2.out _).mono ?_; rintro e w1 ⟨rfl, hb⟩; have H1 := Lib.hid (HS.out.trans (hb.mono HS.out.size)); clear hb)
          go_roundw
          case rel => exact ⟨k + 1, by have := HN.out.2.1; omega, by go_num, by rw [HE.out], H1.out⟩
          case measure => simp [intOf]; have := HN.out.2.1; omega
        · have e1 : ((f1 : Int) == 255) = false := beq_eq_false_iff_ne.2 (by omega)
          have x7 : gL f1 = Lib.decDigits f1 := if_neg h255
          rw [← x7] at D1
          clear x7 h255 hta
          generalize gL f1 = gl at *
          go_wp2_with (first
            | (go_at_call 27; have Hx := H1; clear Hx; refine (D2.out _).mono ?_; rintro e w2 ⟨rfl, hb⟩; have H2 := Lib.hid (H1.out.trans (hb.mono H1.out.size)); clear hb)
            | (go_at_call 27; refine (D1.out _).mono ?_; rintro e w1 ⟨rfl, hb⟩; have H1 := Lib.hid (HS.out.trans (hb.mono HS.out.size)); clear hb; have c2 := (HC.out _ H1.out).2))
          go_roundw
          case rel => exact ⟨k + 1, by have := HN.out.2.1; omega, by go_num, by rw [HE.out], H2.out⟩
          case measure => simp [intOf]; have := HN.out.2.1; omega
    · have hkl : l.take k = l := List.take_of_length_le (by rw [HL.out]; omega)
      rw [hkl]
      clear hkl
      go_wp2
      go_ret
      exact ⟨rfl, HS.out⟩
end Go.Proofs.YtnfnhhphoiebbaaDoor
