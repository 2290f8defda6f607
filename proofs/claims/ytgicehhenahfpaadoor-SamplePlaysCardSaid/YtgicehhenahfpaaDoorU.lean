/- The document's Text. -/
import Derived.Test.YtgicehhenahfpaaDoorT
set_option linter.unusedVariables false
set_option linter.unusedSimpArgs false
namespace Go.Proofs.YtgicehhenahfpaaDoor
open Go.RowKit
attribute [local go_sem] Oper.semAt_some
/-- Who has not read it, in the document's own words. -/
def unread (R : List Int) (k : Nat) : Bool := !decide ((k : Int) ∈ R)
theorem dtext_none {w : World} {B : Nat} {m v n : Int} (hb : Box w B 36 (dch m v n (.slice none 0 0))) : Calls Tryd.prog 16 #[.pointer (some ⟨B, 0, none⟩)] w fun e w' => e = .returned (.string (st [45])) ∧ Below w.heap.size w w' := by
  have c3 : w.cell? ⟨B, 3, none⟩ = some (.slice none 0 0) := hb.read 3
  go_enter Tryd.func16, Tryd.ntmps16
  go_wp2
  go_ret
  exact ⟨rfl, Below.refl _ _⟩
set_option maxHeartbeats 2000000 in
theorem dtext_ok {w : World} {B H c t g q cap : Nat} {m v : Int} {n : Nat} {s : ByteArray} {R : List Int} {xs : List Value} {rv : Value} (hd : Dl w B H m v n c t s R g q cap xs rv) (hc : c ≤ 1048576) (hn : n ≤ 16) (hs : s.size ≤ 1048576) (ht : t < 18446744073709551616) :
    Calls Tryd.prog 16 #[.pointer (some ⟨B, 0, none⟩)] w fun e w' => e = .returned (.string (st (textL t s.data.toList (unread R) n))) ∧ Below w.heap.size w w' := by
  have c2 : w.cell? ⟨B, 2, none⟩ = some (.int .i64 n) := hd.box.read 2
  have c3 : w.cell? ⟨B, 3, none⟩ = some (.slice (some ⟨g, 0, none⟩) (q + 1) cap) := hd.box.read 3
  have hq := hd.hk
  have d0 := (World.ownsRow.cellAt hd.own (q * 3) (by omega)).trans hd.x0
  have d1 := (World.ownsRow.cellAt hd.own (q * 3 + 1) (by omega)).trans hd.x1
  have d2 := (World.ownsRow.cellAt hd.own (q * 3 + 2) (by omega)).trans hd.x2
  have HD := Lib.hid hd
  have e1 : ((q : Int) + 1 - 1) = (q : Int) := by omega
  have q0 : (0 : Int) ≤ (q : Int) := Int.natCast_nonneg _
  have q1 : (q : Int) ≤ 1048576 := by omega
  obtain ⟨ar, nr, cr, rfl⟩ : ∃ a n c, rv = .slice a n c := by
    obtain ⟨a, c, h, _⟩ := hd.lane.shape
    exact ⟨a, _, c, h⟩
  have hB := hd.box.inHeap
  have hown := (hd.own.alloc (.cells #[.int .u64 0, .string ⟨#[]⟩, .slice none 0 0] 59)).drew
  have c3a : (w.alloc (.cells #[.int .u64 0, .string ⟨#[]⟩, .slice none 0 0] 59)).drew.cell? ⟨B, 3, none⟩ = some (.slice (some ⟨g, 0, none⟩) (q + 1) cap) := (hd.box.more _).drawn1.read 3
  have a0 := (World.ownsRow.cellAt hown (q * 3) (by omega)).trans hd.x0
  have a1 := (World.ownsRow.cellAt hown (q * 3 + 1) (by omega)).trans hd.x1
  have a2 := (World.ownsRow.cellAt hown (q * 3 + 2) (by omega)).trans hd.x2
  clear hown
  clear hd
  go_enter Tryd.func16, Tryd.ntmps16
  go_wp2
  go_region
  have hN0 : Box (w.alloc (.cells #[.int .u64 t, .string s, .slice ar nr cr] 59)).drew w.heap.size 59 #[.int .u64 t, .string s, .slice ar nr cr] := (Box.made w 59 _).drawn1
  have HT1 : Hid (Below w.heap.size w (w.alloc (.cells #[.int .u64 t, .string s, .slice ar nr cr] 59)).drew) := Lib.hid (below_drawn ((Below.refl _ _).alloc (Nat.le_refl _) _) 1)
  clear a0 a1 a2 c3a d0 d1 d2 c3 c2
  generalize (w.alloc (.cells #[.int .u64 t, .string s, .slice ar nr cr] 59)).drew = w1 at hN0 HT1 ⊢
  have n0 : w1.cell? ⟨w.heap.size, 0, none⟩ = some (.int .u64 t) := hN0.read 0
  have n1 : w1.cell? ⟨w.heap.size, 1, none⟩ = some (.string s) := hN0.read 1
  have n2 : w1.cell? ⟨w.heap.size, 2, none⟩ = some (.slice ar nr cr) := hN0.read 2
  have HN := Lib.hid hN0
  clear hN0
  have hln := digs_len ht
  have hhx : (hexT s.data.toList).length ≤ 2097153 := by
    unfold hexT
    split
    · simp
    · rw [hexL_len, Array.length_toList]
      show 2 * s.size ≤ _
      omega
  have y1 : ¬ 9223372036854775807 < (st (Lib.decDigits t)).size + 1 := by rw [st_size]; omega
  have y2 : ¬ 9223372036854775807 < (st (Lib.decDigits t)).size + 1 + (st (hexT s.data.toList)).size := by rw [st_size, st_size]; omega
  have y3 : ¬ 9223372036854775807 < (st (Lib.decDigits t)).size + 1 + (st (hexT s.data.toList)).size + 1 := by rw [st_size, st_size]; omega
  have HLN := Lib.hid (And.intro hln hhx)
  clear hln hhx
  go_wp2
  go_region_with (first | (go_at_call 29; refine (digits_any t ht _).mono ?_; rintro e w3 ⟨rfl, bel3⟩; have hN3 : Box w3 w.heap.size 59 _ := (HN.out.drawn1).over bel3 HN.out.inHeap; have n1' : w3.cell? ⟨w.heap.size, 1, none⟩ = some (.string s) := hN3.read 1; have H3 := Lib.hid (And.intro hN3 bel3); clear hN3 bel3) | (go_at_call 30; refine (hex_any s hs _).mono ?_; rintro e w4 ⟨rfl, mh, rfl⟩))
  all_goals
    have H4 : Hid (Box (w3.drewN mh) w.heap.size 59 #[.int .u64 t, .string s, .slice ar nr cr] ∧ Below w.heap.size w (w3.drewN mh)) :=
      Lib.hid ⟨H3.out.1.drawn mh, below_drawn ((below_drawn HT1.out 1).trans (H3.out.2.mono (below_drawn HT1.out 1).size)) mh⟩
    have HE : Hid (st (Lib.decDigits t) ++ ⟨#[32]⟩ ++ st (hexT s.data.toList) ++ ⟨#[32]⟩ = st (Lib.decDigits t ++ 32 :: (hexT s.data.toList ++ 32 :: []))) := Lib.hid (by
      have e : (⟨#[32]⟩ : ByteArray) = st [32] := rfl
      rw [e, st_app, st_app, st_app]
      congr 1
      simp)
    clear n1' n0 n1 n2 H3
    generalize w3.drewN mh = w4 at H4 ⊢
    rw [HE.out]
    generalize hPe : Lib.decDigits t ++ 32 :: (hexT s.data.toList ++ 32 :: []) = pre
    have hpl : pre.length ≤ 2097200 := by rw [← hPe]; simp only [List.length_append, List.length_cons, List.length_nil]; have h1 := HLN.out.1; have h2 := HLN.out.2; omega
    have HP := Lib.hid hPe
    clear hPe y1 y2 y3 HE
    have b2 : w4.cell? ⟨B, 2, none⟩ = some (.int .i64 n) := (HD.out.box.over H4.out.2 hB).read 2
    have n2 : w4.cell? ⟨w.heap.size, 2, none⟩ = some (.slice ar nr cr) := H4.out.1.read 2
    have hln2 : R.length = nr := by
      obtain ⟨a, c, h, _⟩ := HD.out.lane.shape
      cases h
      rw [iv_len]
    have hRl := HD.out.hR
    have HL : Hid (Lane w4 3 (.slice ar nr cr) (iv R)) := Lib.hid (HD.out.lane.below H4.out.2 (Nat.le_refl _))
    go_wp2
    go_loop [4, 5] (fun x i => ∃ k : Nat, k ≤ n ∧ x = .string (st (pre ++ bitsL (unread R) k)) ∧ i = .int .i64 k) (fun _ i => n - (intOf i).toNat)
    case atStart => exact ⟨0, Nat.zero_le _, by simp [bitsL], rfl⟩
    case round =>
      obtain ⟨k, hk, rfl, rfl⟩ := hrel
      have k1 : (0 : Int) ≤ (k : Int) := Int.natCast_nonneg _
      have hbl : (bitsL (unread R) k).length = k := by simp [bitsL]
      have HI := Lib.hid (in_any hln2 HL.out (by omega) k)
      by_cases hlt : k < n
      · have k2 : (k : Int) < (n : Int) := by omega
        have HX : Hid (bitsL (unread R) (k + 1) = bitsL (unread R) k ++ [if unread R k then 49 else 48]) := Lib.hid (by simp [bitsL, List.range_succ])
        have y1 : ¬ 9223372036854775807 < (st (pre ++ bitsL (unread R) k)).size + 1 := by rw [st_size, List.length_append]; omega
        have HA := Lib.hid (st_app (pre ++ bitsL (unread R) k))
        by_cases hin : (k : Int) ∈ R
        · have HU : Hid (decide ((k : Int) ∈ R) = true ∧ unread R k = false) := Lib.hid ⟨decide_eq_true hin, by simp [unread, hin]⟩
          clear hin hbl
          go_wp2_with (go_at_call 26; refine HI.out.mono ?_; rintro e w' ⟨rfl, rfl⟩; rw [HU.out.1])
          go_round
          case rel => exact ⟨k + 1, by omega, by rw [HX.out, HU.out.2, ← List.append_assoc, ← HA.out]; rfl, by go_num⟩
          case measure => simp [intOf]; omega
        · have HU : Hid (decide ((k : Int) ∈ R) = false ∧ unread R k = true) := Lib.hid ⟨decide_eq_false hin, by simp [unread, hin]⟩
          clear hin hbl
          go_wp2_with (go_at_call 26; refine HI.out.mono ?_; rintro e w' ⟨rfl, rfl⟩; rw [HU.out.1])
          go_round
          case rel => exact ⟨k + 1, by omega, by rw [HX.out, HU.out.2, ← List.append_assoc, ← HA.out]; rfl, by go_num⟩
          case measure => simp [intOf]; omega
      · have hke : k = n := by omega
        subst hke
        clear hbl
        have HF : Hid (pre ++ bitsL (unread R) k = textL t s.data.toList (unread R) k) := Lib.hid (by rw [← HP.out, textL]; simp)
        go_wp2
        go_ret
        exact ⟨by rw [← HF.out]; rfl, H4.out.2⟩
end Go.Proofs.YtgicehhenahfpaaDoor
