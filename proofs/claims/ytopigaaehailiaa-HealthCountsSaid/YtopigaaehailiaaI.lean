/- HealthCounts: the loop over the faults. -/
import Derived.Test.YtopigaaehailiaaH
namespace Go.Proofs.Ytopigaaehailiaa
open Go.RowKit

section
variable {T : Nat → Int} {pg li rs : Int}

theorem pend_eq {f : Nat} {p a : Int} {h : Bool} (ha : act T f = a) : pend T f p h = if 1 < a ∧ h = false then max p a else p := by
  subst ha
  unfold pend act
  by_cases hf : f < 17 <;> simp [hf]
theorem act_le (hT : ∀ k, k < 17 → T k < 5) {f : Nat} {a : Int} (ha : act T f = a) : a ≤ 4 := by
  subst ha
  unfold act
  by_cases hf : f < 17
  · rw [if_pos hf]
    have := hT f hf
    omega
  · rw [if_neg hf]
    omega

set_option maxHeartbeats 1000000 in
set_option maxRecDepth 100000 in
theorem law_row (hT : ∀ k, k < 17 → T k < 5) (h0 : 0 ≤ rs) (h1 : rs ≤ 255) (b off len cap : Nat) (zs : List Int) (hl : len ≤ 200) (w : World) (hb : b < w.heap.size)
    (hc : ∀ i, i < len → w.cell? ⟨b, off + i, none⟩ = some (.int .u8 (zs.getD i 0)) ∧ 0 ≤ zs.getD i 0 ∧ zs.getD i 0 ≤ 255) :
    Calls Try.prog 3 #[.agg (guest T pg li rs), .slice (some ⟨b, off, none⟩) len cap] w fun e w' => e = .returned (.bool true) ∧ Below w.heap.size w w' := by
  have hB : Box (w.alloc (.cells (guest T pg li rs) 25)) w.heap.size 25 (guest T pg li rs) := Box.made _ _ _
  have HC := Lib.hid hc
  clear hc
  go_enter Try.func3, Try.ntmps3
  go_wp2_with (refine wpList_load_row rfl 25 (.tmp 2) rfl w.heap.size rfl 25 (guest T pg li rs) (0, 0) _ ?_ Try.underlying25 rfl size_guest ?_; exact hB)
  refine (new_ok hT _).mono ?_
  rintro e w1 ⟨B, rfl, hB1, b1, d1⟩
  have hB1' : w.heap.size + 1 ≤ B := by simpa using hB1
  have g1 : Box w1 w.heap.size 25 (guest T pg li rs) := hB.over d1 (by simp)
  have dw1 : Below w.heap.size w w1 := ((Below.refl _ _).alloc (Nat.le_refl _) _).trans (d1.mono (by simp))
  clear d1 hB hB1
  go_wp2_with fail
  go_loopw [7, 8, 9, 10] (fun s r h i wr => ∃ (k : Nat) (st re : Int) (ha : Bool), k ≤ len ∧ i = .int .i64 k ∧ s = .int .u8 st ∧ r = .int .i64 re ∧ h = .bool ha ∧ 0 ≤ st ∧ st ≤ 4 ∧ ¬ st = 1 ∧ 0 ≤ re ∧ re ≤ rs ∧
      Box wr B 37 (mon T rs st re ha) ∧ Below B w1 wr) (fun _ _ _ i _ => len - (intOf i).toNat)
  case atStart => exact ⟨0, 0, 0, false, by omega, rfl, rfl, rfl, rfl, by omega, by omega, by omega, by omega, h0, b1, Below.refl _ _⟩
  case round =>
    obtain ⟨k, st, re, ha, hk, rfl, rfl, rfl, rfl, hs0, hs4, hs1, hr0, hr1, bx, dx⟩ := hrel
    by_cases hlt : k < len
    · have dwx : Below w.heap.size w wr := dw1.trans (dx.mono (by omega))
      obtain ⟨z, hz⟩ : ∃ z, z = zs.getD k 0 := ⟨_, rfl⟩
      obtain ⟨hcz, hz0, hz1⟩ := HC.out k hlt
      rw [← hz] at hcz hz0 hz1
      have hcell : wr.cell? ⟨b, off + k, none⟩ = some (.int .u8 z) := (dwx.cell (p := ⟨b, off + k, none⟩) hb).trans hcz
      have gx : Box wr w.heap.size 25 (guest T pg li rs) := g1.over dx (by omega)
      have hgr : wr.cell? ⟨w.heap.size, 2, none⟩ = some (.int .u8 rs) := gx.read 2
      clear hz hcz HC
      by_cases hzz : z = 255
      · subst hzz
        by_cases q0 : st = 0
        · subst q0
          go_wp2_with fail
          refine (take_to bx (by decide) (by decide) hr0 hr1 h1 0 re ha (by simp [takes]) (by simp [again]) (by simp [halts])).mono ?_
          rintro e w2 ⟨rfl, b2, d2⟩
          have hg2 : w2.cell? ⟨w.heap.size, 2, none⟩ = some (.int .u8 rs) := (gx.over d2 (by omega)).read 2
          go_wp2_with fail
          refine (restarts_any B re _ (b2.read 0) (b2.read 20)).mono ?_
          rintro e w' ⟨rfl, rfl⟩
          go_wp2_with fail
          refine (halted_any B ha _ (b2.read 0) (b2.read 21)).mono ?_
          rintro e w' ⟨rfl, rfl⟩
          go_wp2_with fail
          refine (pending_any B 0 _ (b2.read 0) (b2.read 19)).mono ?_
          rintro e w' ⟨rfl, rfl⟩
          go_wp2_with fail
          go_roundw
          case rel => exact ⟨k + 1, 0, re, ha, by omega, by go_num, rfl, rfl, rfl, by omega, by omega, by omega, by omega, by omega, b2, dx.trans d2⟩
          case measure => simp [intOf]; omega
        by_cases q4 : st = 4
        · subst q4
          go_wp2_with fail
          refine (take_to bx (by decide) (by decide) hr0 hr1 h1 4 re true (by simp [takes]) (by simp [again]) (by simp [halts])).mono ?_
          rintro e w2 ⟨rfl, b2, d2⟩
          have hg2 : w2.cell? ⟨w.heap.size, 2, none⟩ = some (.int .u8 rs) := (gx.over d2 (by omega)).read 2
          go_wp2_with fail
          refine (restarts_any B re _ (b2.read 0) (b2.read 20)).mono ?_
          rintro e w' ⟨rfl, rfl⟩
          go_wp2_with fail
          refine (halted_any B true _ (b2.read 0) (b2.read 21)).mono ?_
          rintro e w' ⟨rfl, rfl⟩
          go_wp2_with fail
          refine (pending_any B 0 _ (b2.read 0) (b2.read 19)).mono ?_
          rintro e w' ⟨rfl, rfl⟩
          go_wp2_with fail
          go_roundw
          case rel => exact ⟨k + 1, 0, re, true, by omega, by go_num, rfl, rfl, rfl, by omega, by omega, by omega, by omega, by omega, b2, dx.trans d2⟩
          case measure => simp [intOf]; omega
        have t0 : (st == 0) = false := by simp; omega
        have t4 : (st == 4) = false := by simp; omega
        by_cases qr : re = rs
        · subst qr
          go_wp2_with fail
          refine (take_to bx hs0 hs4 hr0 hr1 h1 4 re true (by simp [takes, q0, q4]) (by simp [again, q0, q4]) (by simp [halts, q0, q4])).mono ?_
          rintro e w2 ⟨rfl, b2, d2⟩
          have hg2 : w2.cell? ⟨w.heap.size, 2, none⟩ = some (.int .u8 re) := (gx.over d2 (by omega)).read 2
          go_wp2_with fail
          refine (restarts_any B re _ (b2.read 0) (b2.read 20)).mono ?_
          rintro e w' ⟨rfl, rfl⟩
          go_wp2_with fail
          refine (halted_any B true _ (b2.read 0) (b2.read 21)).mono ?_
          rintro e w' ⟨rfl, rfl⟩
          go_wp2_with fail
          refine (pending_any B 0 _ (b2.read 0) (b2.read 19)).mono ?_
          rintro e w' ⟨rfl, rfl⟩
          go_wp2_with fail
          go_roundw
          case rel => exact ⟨k + 1, 0, re, true, by omega, by go_num, rfl, rfl, rfl, by omega, by omega, by omega, by omega, by omega, b2, dx.trans d2⟩
          case measure => simp [intOf]; omega
        · have t5 : (re == rs) = false := by simp; omega
          by_cases q2 : st = 2
          · subst q2
            go_wp2_with fail
            refine (take_to bx hs0 hs4 hr0 hr1 h1 2 (re + 1) ha (by simp [takes, qr]) (by simp [again, qr]) (by simp [halts, qr])).mono ?_
            rintro e w2 ⟨rfl, b2, d2⟩
            have hg2 : w2.cell? ⟨w.heap.size, 2, none⟩ = some (.int .u8 rs) := (gx.over d2 (by omega)).read 2
            go_wp2_with fail
            refine (restarts_any B (re + 1) _ (b2.read 0) (b2.read 20)).mono ?_
            rintro e w' ⟨rfl, rfl⟩
            go_wp2_with fail
            refine (halted_any B ha _ (b2.read 0) (b2.read 21)).mono ?_
            rintro e w' ⟨rfl, rfl⟩
            go_wp2_with fail
            refine (pending_any B 0 _ (b2.read 0) (b2.read 19)).mono ?_
            rintro e w' ⟨rfl, rfl⟩
            go_wp2_with fail
            go_roundw
            case rel => exact ⟨k + 1, 0, (re + 1), ha, by omega, by go_num, rfl, rfl, rfl, by omega, by omega, by omega, by omega, by omega, b2, dx.trans d2⟩
            case measure => simp [intOf]; omega
          · obtain rfl : st = 3 := by omega
            go_wp2_with fail
            refine (take_to bx hs0 hs4 hr0 hr1 h1 3 (re + 1) ha (by simp [takes, qr]) (by simp [again, qr]) (by simp [halts, qr])).mono ?_
            rintro e w2 ⟨rfl, b2, d2⟩
            have hg2 : w2.cell? ⟨w.heap.size, 2, none⟩ = some (.int .u8 rs) := (gx.over d2 (by omega)).read 2
            go_wp2_with fail
            refine (restarts_any B (re + 1) _ (b2.read 0) (b2.read 20)).mono ?_
            rintro e w' ⟨rfl, rfl⟩
            go_wp2_with fail
            refine (halted_any B ha _ (b2.read 0) (b2.read 21)).mono ?_
            rintro e w' ⟨rfl, rfl⟩
            go_wp2_with fail
            refine (pending_any B 0 _ (b2.read 0) (b2.read 19)).mono ?_
            rintro e w' ⟨rfl, rfl⟩
            go_wp2_with fail
            go_roundw
            case rel => exact ⟨k + 1, 0, (re + 1), ha, by omega, by go_num, rfl, rfl, rfl, by omega, by omega, by omega, by omega, by omega, b2, dx.trans d2⟩
            case measure => simp [intOf]; omega
      · have tz : (z == 255) = false := by simp; omega
        have tz' : (z != 255) = true := by simp; omega
        obtain ⟨a, ha'⟩ : ∃ a, act T z.toNat = a := ⟨_, rfl⟩
        have hpe := pend_eq (p := st) (h := ha) ha'
        have hab := act_le hT ha'
        have Ha := Lib.hid ha'
        clear ha'
        by_cases q1 : 1 < a
        · cases ha
          · by_cases q2 : st < a
            · have hp : pend T z.toNat st false = a := by rw [hpe]; simp; omega
              clear hpe
              go_wp2_with fail
              refine (raise_to bx z.toNat z a a (by omega) (by omega) Ha.out hp).mono ?_
              rintro e w2 ⟨rfl, b2, d2⟩
              clear hp
              go_wp2_with fail
              go_roundw
              case rel => exact ⟨k + 1, a, re, false, by omega, by go_num, rfl, rfl, rfl, by omega, by omega, by omega, by omega, by omega, b2, dx.trans d2⟩
              case measure => simp [intOf]; omega
            · have hp : pend T z.toNat st false = st := by rw [hpe]; simp; omega
              clear hpe
              go_wp2_with fail
              refine (raise_to bx z.toNat z a st (by omega) (by omega) Ha.out hp).mono ?_
              rintro e w2 ⟨rfl, b2, d2⟩
              clear hp
              go_wp2_with fail
              go_roundw
              case rel => exact ⟨k + 1, st, re, false, by omega, by go_num, rfl, rfl, rfl, by omega, by omega, by omega, by omega, by omega, b2, dx.trans d2⟩
              case measure => simp [intOf]; omega
          · by_cases q2 : st < a
            · have hp : pend T z.toNat st true = st := by rw [hpe]; simp
              clear hpe
              go_wp2_with fail
              refine (raise_to bx z.toNat z a st (by omega) (by omega) Ha.out hp).mono ?_
              rintro e w2 ⟨rfl, b2, d2⟩
              clear hp
              go_wp2_with fail
              go_roundw
              case rel => exact ⟨k + 1, st, re, true, by omega, by go_num, rfl, rfl, rfl, by omega, by omega, by omega, by omega, by omega, b2, dx.trans d2⟩
              case measure => simp [intOf]; omega
            · have hp : pend T z.toNat st true = st := by rw [hpe]; simp
              clear hpe
              go_wp2_with fail
              refine (raise_to bx z.toNat z a st (by omega) (by omega) Ha.out hp).mono ?_
              rintro e w2 ⟨rfl, b2, d2⟩
              clear hp
              go_wp2_with fail
              go_roundw
              case rel => exact ⟨k + 1, st, re, true, by omega, by go_num, rfl, rfl, rfl, by omega, by omega, by omega, by omega, by omega, b2, dx.trans d2⟩
              case measure => simp [intOf]; omega
        · have hp : pend T z.toNat st ha = st := by rw [hpe]; simp; omega
          clear hpe
          go_wp2_with fail
          refine (raise_to bx z.toNat z a st (by omega) (by omega) Ha.out hp).mono ?_
          rintro e w2 ⟨rfl, b2, d2⟩
          clear hp
          go_wp2_with fail
          go_roundw
          case rel => exact ⟨k + 1, st, re, ha, by omega, by go_num, rfl, rfl, rfl, by omega, by omega, by omega, by omega, by omega, b2, dx.trans d2⟩
          case measure => simp [intOf]; omega
    · go_wp2_with fail
      refine (awake_any _).mono ?_
      rintro e w2 ⟨rfl, d2⟩
      go_wp2_with fail
      go_ret
      exact ⟨rfl, (dw1.trans (dx.mono (by omega))).trans (d2.mono (Nat.le_trans dw1.size dx.size))⟩

set_option maxHeartbeats 1000000 in
set_option maxRecDepth 100000 in
theorem law_empty (hT : ∀ k, k < 17 → T k < 5) (a0 : Option Addr) (cap : Nat) (w : World) :
    Calls Try.prog 3 #[.agg (guest T pg li rs), .slice a0 0 cap] w fun e w' => e = .returned (.bool true) ∧ Below w.heap.size w w' := by
  have hB : Box (w.alloc (.cells (guest T pg li rs) 25)) w.heap.size 25 (guest T pg li rs) := Box.made _ _ _
  go_enter Try.func3, Try.ntmps3
  go_wp2_with (refine wpList_load_row rfl 25 (.tmp 2) rfl w.heap.size rfl 25 (guest T pg li rs) (0, 0) _ ?_ Try.underlying25 rfl size_guest ?_; exact hB)
  refine (new_ok hT _).mono ?_
  rintro e w1 ⟨B, rfl, hB1, b1, d1⟩
  have dw1 : Below w.heap.size w w1 := ((Below.refl _ _).alloc (Nat.le_refl _) _).trans (d1.mono (by simp))
  clear d1 hB hB1 b1
  go_wp2_with fail
  go_loopw [10] (fun i wr => i = .int .i64 0 ∧ Below w.heap.size w wr) (fun _ _ => 0)
  case atStart => exact ⟨rfl, dw1⟩
  case round =>
    obtain ⟨rfl, dx⟩ := hrel
    go_wp2_with fail
    refine (awake_any _).mono ?_
    rintro e w2 ⟨rfl, d2⟩
    go_wp2_with fail
    go_ret
    exact ⟨rfl, dx.trans (d2.mono dx.size)⟩
end
end Go.Proofs.Ytopigaaehailiaa
