/- RamHolds' body, case 7. -/
import Derived.Test.YtjdedgfbonlmkaaG
set_option linter.unusedVariables false
set_option linter.unusedSimpArgs false
namespace Go.Proofs.Ytjdedgfbonlmkaa
open Go.RowKit
set_option maxHeartbeats 12800000 in
set_option maxRecDepth 200000 in
theorem holds_7 (at0 : Nat) (v : Int) (hr0 : at0 < 18446744073709551616) (hv4 : v ≠ 4) (hv8 : v ≠ 8) (a : Option Addr) (len cap : Nat) (l : List Deed) (w : World) (hf : IsDeeds w a len l) : Calls Try.prog 6 #[.int .u64 at0, .int .i64 v, .slice a len cap] w (Yes w) := by
  have HL := Lib.hid hf.1
  have LA := Lib.hid fun wx bel => hf.later (wx := wx) bel
  have hF := fun wx bel => few_any a len cap l wx (hf.later bel)
  have HT2 := Lib.hid fun hb => few_true hf.1 hb
  generalize hB : fewB len l = bb at hF HT2
  have HF := Lib.hid hF
  clear hF hB hf
  have m0 : (v == 4) = false := beq_eq_false_iff_ne.2 hv4
  have m1 : (v == 8) = false := beq_eq_false_iff_ne.2 hv8
  have RC := Lib.hid (fun wr B g (h : St w at0 v false wr B g) => reserve_no h at0 v hr0 (decide_eq_false (by rintro ⟨h1 | h1, h2, h3⟩ <;> omega)))
  cases bb
  all_goals go_enter Try.func6, Try.ntmps6
  · go_wp2_with (first | (go_at_call 8; refine (new_st _ at0 v).mono ?_; rintro e w1 ⟨rfl, hS⟩; generalize w.heap.size + 1 = B at hS ⊢; generalize w.heap.size = g at hS ⊢; have HSB := Lib.hid hS.bel; clear hS) | (go_at_call 10; refine (works_any _).mono ?_; rintro e w' ⟨rfl, bel⟩) | (go_at_call 9; refine (HF.out _ HSB.out).mono ?_; rintro e w' ⟨rfl, rfl⟩))
    go_ret
    exact ⟨rfl, HSB.out.trans (bel.mono HSB.out.size)⟩
  · obtain ⟨h60, hz100⟩ := HT2.out rfl
    have HZ := Lib.hid hz100
    clear hz100 HT2
    go_wp2_with (first | (go_at_call 8; refine (new_st _ at0 v).mono ?_; rintro e w1 ⟨rfl, hS⟩; generalize w.heap.size + 1 = B at hS ⊢; generalize w.heap.size = g at hS ⊢; have HS0 := Lib.hid hS; clear hS) | (go_at_call 9; refine (HF.out _ HS0.out.bel).mono ?_; rintro e w' ⟨rfl, rfl⟩) | (go_at_call 27; refine (RC.out _ _ _ HS0.out).mono ?_; rintro e w2 ⟨rfl, hz⟩; have HS1 := Lib.hid hz.1; clear hz))
    clear m0
    try clear m1
    go_loopw [8, 9] (fun hv i wr => ∃ (k : Nat) (hb : Bool), k ≤ len ∧ i = .int .i64 k ∧ hv = .bool hb ∧ St w at0 v hb wr B g) (fun _ i _ => len - (intOf i).toNat)
    case atStart => exact ⟨0, false, Nat.zero_le _, rfl, rfl, HS1.out⟩
    case round =>
      obtain ⟨k, hb, hk, rfl, rfl, hst⟩ := hrel
      have k1 : (0 : Int) ≤ (k : Int) := Int.natCast_nonneg _
      by_cases hlt : k < len
      · obtain ⟨f, hk2⟩ : ∃ f, l[k]? = some f := ⟨_, List.getElem?_eq_getElem (by rw [HL.out]; exact hlt)⟩
        obtain ⟨b, off, rfl, hbb, c0, c1, c2, c3, c4, n0, n1, n2, n3, n4⟩ := (LA.out wr hst.bel).2 k f hk2
        have d0 : wr.cell? ⟨b, off + k * 5, none⟩ = some (.int .u8 f.k) := by rw [Nat.mul_comm]; exact c0
        have d1 : wr.cell? ⟨b, off + k * 5 + 1, none⟩ = some (.int .u64 f.a) := by rw [Nat.mul_comm]; exact c1
        have d2 : wr.cell? ⟨b, off + k * 5 + 2, none⟩ = some (.int .u64 f.v) := by rw [Nat.mul_comm]; exact c2
        have d3 : wr.cell? ⟨b, off + k * 5 + 3, none⟩ = some (.int .i64 f.wd) := by rw [Nat.mul_comm]; exact c3
        have d4 : wr.cell? ⟨b, off + k * 5 + 4, none⟩ = some (.string f.s) := by rw [Nat.mul_comm]; exact c4
        have k2 : (k : Int) < (len : Int) := by omega
        have hsz := HZ.out k f hk2
        rcases f with ⟨what, fa, x, wd, s⟩
        simp only at d0 d1 d2 d3 d4 n0 n1 n2 n3 n4 hsz
        clear c0 c1 c2 c3 c4 hk2 hbb
        have hA : Box (wr.alloc (.cells #[.int .u8 what, .int .u64 fa, .int .u64 x, .int .i64 wd, .string s] 35)) wr.heap.size 35 #[.int .u8 what, .int .u64 fa, .int .u64 x, .int .i64 wd, .string s] := Box.made _ _ _
        have HS := Lib.hid (hst.more (.cells #[.int .u8 what, .int .u64 fa, .int .u64 x, .int .i64 wd, .string s] 35))
        have HAA := Lib.hid hA
        have HKA := Lib.hid hst.far
        have hne : (hb != hb) = false := bne_self_eq_false hb
        clear hst hA
        have hr : (what : Int) % 10 = ((what % 10 : Nat) : Int) := by omega
        have hr9 : what % 10 < 10 := Nat.mod_lt _ (by decide)
        generalize what % 10 = r at hr hr9
        go_wp2
        go_quiet (fail)
        have hS9 := HS.out.drawn nq
        have hA9 := HAA.out.drawn nq
        have hK9 : Touch (Own2 B g) wr (World.drewN (wr.alloc (.cells #[.int .u8 what, .int .u64 fa, .int .u64 x, .int .i64 wd, .string s] 35)) nq) := ((Touch.refl _ _).more _).drawn nq
        clear HS HAA
        generalize (World.drewN (wr.alloc (.cells #[.int .u8 what, .int .u64 fa, .int .u64 x, .int .i64 wd, .string s] 35)) nq) = w9 at hS9 hA9 hK9 ⊢
        have a0 : w9.cell? ⟨wr.heap.size, 0, none⟩ = some (.int .u8 what) := hA9.read 0
        have a1 : w9.cell? ⟨wr.heap.size, 1, none⟩ = some (.int .u64 fa) := hA9.read 1
        have a2 : w9.cell? ⟨wr.heap.size, 2, none⟩ = some (.int .u64 x) := hA9.read 2
        have a3 : w9.cell? ⟨wr.heap.size, 3, none⟩ = some (.int .i64 wd) := hA9.read 3
        have a4 : w9.cell? ⟨wr.heap.size, 4, none⟩ = some (.string s) := hA9.read 4
        have HS := Lib.hid hS9
        have HA := Lib.hid hA9
        clear hS9 hA9 hK9
        generalize wr.heap.size = A at a0 a1 a2 a3 a4 HA HKA ⊢
        have hr8 : (r = 0 ∨ r = 1) ∨ (r = 2 ∨ r = 3) ∨ r = 4 ∨ r = 5 ∨ r = 6 ∨ (r = 7 ∨ r = 9) ∨ r = 8 := by omega
        rcases hr8 with hr8 | hr8 | rfl | rfl | rfl | hr8 | rfl
        · obtain rfl | rfl := hr8
          all_goals
            as_aux_lemma =>
              go_wp2_with (first | (go_at_call 26; refine (read_st HS.out fa wd).mono ?_; rintro e w2 ⟨y2, b2, rfl, hz⟩; have HS2 := Lib.hid hz.1; clear hz) | (go_at_call 17; refine (held_st HS2.out).mono ?_; rintro e w' ⟨rfl, rfl⟩))
              go_roundw
              case rel => exact ⟨k + 1, hb, by omega, by go_num, rfl, HS2.out⟩
              case measure => simp [intOf]; omega
        · by_cases hw : (wd = 1 ∨ wd = 2 ∨ wd = 4 ∨ wd = 8) ∧ (fa : Int) + wd ≤ 4096
          · obtain ⟨n, hn, rfl⟩ : ∃ n : Nat, (n = 1 ∨ n = 2 ∨ n = 4 ∨ n = 8) ∧ wd = n := ⟨wd.toNat, by omega, by omega⟩
            have hw1 : wrB 4096 fa n = true := decide_eq_true hw
            have hn0 : 0 < n := by omega
            have hn8 : n ≤ 8 := by omega
            have hn9 : fa + n ≤ 4096 := by omega
            have g0 : (fa : Int) < (fa : Int) + (n : Int) := by omega
            clear hw hn
            by_cases q1 : fa / 8 ≤ at0 / 8
            · by_cases q2 : at0 / 8 ≤ (fa + n - 1) / 8
              · have WR := Lib.hid (fun wz (h : St w at0 v hb wz B g) => write_yes h fa x n false n2 hw1 (fun A W _ => hB_hit hn0 q1 q2))
                have p1 : (fa : Int) / 8 ≤ (at0 : Int) / 8 := by omega
                have p2 : (at0 : Int) / 8 ≤ ((fa : Int) + (n : Int) - 1) / 8 := by omega
                clear q1 q2 hw1
                obtain rfl | rfl := hr8
                all_goals
                  as_aux_lemma =>
                    go_wp2_with (first | (go_at_call 24; refine (WR.out _ HS.out).mono ?_; rintro e w2 ⟨rfl, hz⟩; have hA2 := HA.out.touch hz.2 HKA.out; have b1 : w2.cell? ⟨A, 1, none⟩ = some (.int .u64 fa) := hA2.read 1; have b3 : w2.cell? ⟨A, 3, none⟩ = some (.int .i64 n) := hA2.read 3; have HS2 := Lib.hid hz.1; clear hz hA2) | (go_at_call 17; refine (held_st HS2.out).mono ?_; rintro e w' ⟨rfl, rfl⟩))
                    go_roundw
                    case rel => exact ⟨k + 1, false, by omega, by go_num, rfl, HS2.out⟩
                    case measure => simp [intOf]; omega
              · have WR := Lib.hid (fun wz (h : St w at0 v hb wz B g) => write_yes h fa x n hb n2 hw1 (fun A W e => (hB_miss (by omega)).trans e))
                have p1 : (fa : Int) / 8 ≤ (at0 : Int) / 8 := by omega
                have p2 : ¬ (at0 : Int) / 8 ≤ ((fa : Int) + (n : Int) - 1) / 8 := by omega
                clear q1 q2 hw1
                obtain rfl | rfl := hr8
                all_goals
                  as_aux_lemma =>
                    go_wp2_with (first | (go_at_call 24; refine (WR.out _ HS.out).mono ?_; rintro e w2 ⟨rfl, hz⟩; have hA2 := HA.out.touch hz.2 HKA.out; have b1 : w2.cell? ⟨A, 1, none⟩ = some (.int .u64 fa) := hA2.read 1; have b3 : w2.cell? ⟨A, 3, none⟩ = some (.int .i64 n) := hA2.read 3; have HS2 := Lib.hid hz.1; clear hz hA2) | (go_at_call 17; refine (held_st HS2.out).mono ?_; rintro e w' ⟨rfl, rfl⟩))
                    go_roundw
                    case rel => exact ⟨k + 1, hb, by omega, by go_num, rfl, HS2.out⟩
                    case measure => simp [intOf]; omega
            · have WR := Lib.hid (fun wz (h : St w at0 v hb wz B g) => write_yes h fa x n hb n2 hw1 (fun A W e => (hB_miss (by omega)).trans e))
              have p1 : ¬ (fa : Int) / 8 ≤ (at0 : Int) / 8 := by omega
              clear q1 hw1
              obtain rfl | rfl := hr8
              all_goals
                as_aux_lemma =>
                  go_wp2_with (first | (go_at_call 24; refine (WR.out _ HS.out).mono ?_; rintro e w2 ⟨rfl, hz⟩; have hA2 := HA.out.touch hz.2 HKA.out; have b1 : w2.cell? ⟨A, 1, none⟩ = some (.int .u64 fa) := hA2.read 1; have b3 : w2.cell? ⟨A, 3, none⟩ = some (.int .i64 n) := hA2.read 3; have HS2 := Lib.hid hz.1; clear hz hA2) | (go_at_call 17; refine (held_st HS2.out).mono ?_; rintro e w' ⟨rfl, rfl⟩))
                  go_roundw
                  case rel => exact ⟨k + 1, hb, by omega, by go_num, rfl, HS2.out⟩
                  case measure => simp [intOf]; omega
          · have WR := Lib.hid (fun wz (h : St w at0 v hb wz B g) => write_no h fa x wd n2 (decide_eq_false hw))
            clear hw
            obtain rfl | rfl := hr8
            all_goals
              as_aux_lemma =>
                go_wp2_with (first | (go_at_call 24; refine (WR.out _ HS.out).mono ?_; rintro e w2 ⟨rfl, hz⟩; have HS2 := Lib.hid hz.1; clear hz) | (go_at_call 17; refine (held_st HS2.out).mono ?_; rintro e w' ⟨rfl, rfl⟩))
                go_roundw
                case rel => exact ⟨k + 1, hb, by omega, by go_num, rfl, HS2.out⟩
                case measure => simp [intOf]; omega
        · by_cases hw : fa + s.size ≤ 4096
          · by_cases q0 : 0 < s.size
            · have g0 : (fa : Int) < (fa : Int) + (s.size : Int) := by omega
              by_cases q1 : fa / 8 ≤ at0 / 8
              · by_cases q2 : at0 / 8 ≤ (fa + s.size - 1) / 8
                · have WR := Lib.hid (fun wz (h : St w at0 v hb wz B g) => put_yes h fa s false hw (fun A W _ => hB_hit q0 q1 q2))
                  have p1 : (fa : Int) / 8 ≤ (at0 : Int) / 8 := by omega
                  have p2 : (at0 : Int) / 8 ≤ ((fa : Int) + (s.size : Int) - 1) / 8 := by omega
                  clear q1 q2
                  as_aux_lemma =>
                    go_wp2_with (first | (go_at_call 23; refine (WR.out _ HS.out).mono ?_; rintro e w2 ⟨rfl, hz⟩; have hA2 := HA.out.touch hz.2 HKA.out; have b1 : w2.cell? ⟨A, 1, none⟩ = some (.int .u64 fa) := hA2.read 1; have b4 : w2.cell? ⟨A, 4, none⟩ = some (.string s) := hA2.read 4; have HS2 := Lib.hid hz.1; clear hz hA2) | (go_at_call 17; refine (held_st HS2.out).mono ?_; rintro e w' ⟨rfl, rfl⟩))
                    go_roundw
                    case rel => exact ⟨k + 1, false, by omega, by go_num, rfl, HS2.out⟩
                    case measure => simp [intOf]; omega
                · have WR := Lib.hid (fun wz (h : St w at0 v hb wz B g) => put_yes h fa s hb hw (fun A W e => (hB_miss (by omega)).trans e))
                  have p1 : (fa : Int) / 8 ≤ (at0 : Int) / 8 := by omega
                  have p2 : ¬ (at0 : Int) / 8 ≤ ((fa : Int) + (s.size : Int) - 1) / 8 := by omega
                  clear q1 q2
                  as_aux_lemma =>
                    go_wp2_with (first | (go_at_call 23; refine (WR.out _ HS.out).mono ?_; rintro e w2 ⟨rfl, hz⟩; have hA2 := HA.out.touch hz.2 HKA.out; have b1 : w2.cell? ⟨A, 1, none⟩ = some (.int .u64 fa) := hA2.read 1; have b4 : w2.cell? ⟨A, 4, none⟩ = some (.string s) := hA2.read 4; have HS2 := Lib.hid hz.1; clear hz hA2) | (go_at_call 17; refine (held_st HS2.out).mono ?_; rintro e w' ⟨rfl, rfl⟩))
                    go_roundw
                    case rel => exact ⟨k + 1, hb, by omega, by go_num, rfl, HS2.out⟩
                    case measure => simp [intOf]; omega
              · have WR := Lib.hid (fun wz (h : St w at0 v hb wz B g) => put_yes h fa s hb hw (fun A W e => (hB_miss (by omega)).trans e))
                have p1 : ¬ (fa : Int) / 8 ≤ (at0 : Int) / 8 := by omega
                clear q1
                as_aux_lemma =>
                  go_wp2_with (first | (go_at_call 23; refine (WR.out _ HS.out).mono ?_; rintro e w2 ⟨rfl, hz⟩; have hA2 := HA.out.touch hz.2 HKA.out; have b1 : w2.cell? ⟨A, 1, none⟩ = some (.int .u64 fa) := hA2.read 1; have b4 : w2.cell? ⟨A, 4, none⟩ = some (.string s) := hA2.read 4; have HS2 := Lib.hid hz.1; clear hz hA2) | (go_at_call 17; refine (held_st HS2.out).mono ?_; rintro e w' ⟨rfl, rfl⟩))
                  go_roundw
                  case rel => exact ⟨k + 1, hb, by omega, by go_num, rfl, HS2.out⟩
                  case measure => simp [intOf]; omega
            · have g0 : ¬ (fa : Int) < (fa : Int) + (s.size : Int) := by omega
              have WR := Lib.hid (fun wz (h : St w at0 v hb wz B g) => put_yes h fa s hb hw (fun A W e => (hB_miss (by omega)).trans e))
              as_aux_lemma =>
                go_wp2_with (first | (go_at_call 23; refine (WR.out _ HS.out).mono ?_; rintro e w2 ⟨rfl, hz⟩; have hA2 := HA.out.touch hz.2 HKA.out; have b1 : w2.cell? ⟨A, 1, none⟩ = some (.int .u64 fa) := hA2.read 1; have b4 : w2.cell? ⟨A, 4, none⟩ = some (.string s) := hA2.read 4; have HS2 := Lib.hid hz.1; clear hz hA2) | (go_at_call 17; refine (held_st HS2.out).mono ?_; rintro e w' ⟨rfl, rfl⟩))
                go_roundw
                case rel => exact ⟨k + 1, hb, by omega, by go_num, rfl, HS2.out⟩
                case measure => simp [intOf]; omega
          · have WR := Lib.hid (fun wz (h : St w at0 v hb wz B g) => put_no h fa s hsz hw)
            as_aux_lemma =>
              go_wp2_with (first | (go_at_call 23; refine (WR.out _ HS.out).mono ?_; rintro e w2 ⟨rfl, hz⟩; have HS2 := Lib.hid hz.1; clear hz) | (go_at_call 17; refine (held_st HS2.out).mono ?_; rintro e w' ⟨rfl, rfl⟩))
              go_roundw
              case rel => exact ⟨k + 1, hb, by omega, by go_num, rfl, HS2.out⟩
              case measure => simp [intOf]; omega
        · have hx : (x : Int) % 100 = ((x % 100 : Nat) : Int) := by omega
          have hx9 : x % 100 < 100 := Nat.mod_lt _ (by decide)
          generalize x % 100 = y at hx hx9
          as_aux_lemma =>
            go_wp2_with (first | (go_at_call 19; refine (bytes_st HS.out fa y).mono ?_; rintro e w2 ⟨s2, x2, rfl, hz⟩; have HS2 := Lib.hid hz.1; clear hz) | (go_at_call 17; refine (held_st HS2.out).mono ?_; rintro e w' ⟨rfl, rfl⟩))
            go_roundw
            case rel => exact ⟨k + 1, hb, by omega, by go_num, rfl, HS2.out⟩
            case measure => simp [intOf]; omega
        · by_cases hw : (wd = 4 ∨ wd = 8) ∧ (fa : Int) % wd = 0 ∧ (fa : Int) + wd ≤ 4096
          · by_cases q1 : fa = at0
            · subst q1
              have q3 : ((fa : Int) == (fa : Int)) = true := beq_self_eq_true _
              by_cases q2 : wd = v
              · have q4 : (wd == v) = true := beq_iff_eq.2 q2
                have WR := Lib.hid (fun wz (h : St w fa v hb wz B g) => reserve_yes h fa wd true hr0 (decide_eq_true hw) (decide_eq_true ⟨by omega, rfl, by omega⟩))
                clear hw q2
                as_aux_lemma =>
                  go_wp2_with (first | (go_at_call 27; refine (WR.out _ HS.out).mono ?_; rintro e w2 ⟨rfl, hz⟩; have hA2 := HA.out.touch hz.2 HKA.out; have b1 : w2.cell? ⟨A, 1, none⟩ = some (.int .u64 fa) := hA2.read 1; have b3 : w2.cell? ⟨A, 3, none⟩ = some (.int .i64 wd) := hA2.read 3; have HS2 := Lib.hid hz.1; clear hz hA2) | (go_at_call 17; refine (held_st HS2.out).mono ?_; rintro e w' ⟨rfl, rfl⟩))
                  go_roundw
                  case rel => exact ⟨k + 1, true, by omega, by go_num, rfl, HS2.out⟩
                  case measure => simp [intOf]; omega
              · have q4 : (wd == v) = false := beq_eq_false_iff_ne.2 q2
                have WR := Lib.hid (fun wz (h : St w fa v hb wz B g) => reserve_yes h fa wd false hr0 (decide_eq_true hw) (decide_eq_false (by rintro ⟨e1, e2, e3⟩; omega)))
                clear hw q2
                as_aux_lemma =>
                  go_wp2_with (first | (go_at_call 27; refine (WR.out _ HS.out).mono ?_; rintro e w2 ⟨rfl, hz⟩; have hA2 := HA.out.touch hz.2 HKA.out; have b1 : w2.cell? ⟨A, 1, none⟩ = some (.int .u64 fa) := hA2.read 1; have b3 : w2.cell? ⟨A, 3, none⟩ = some (.int .i64 wd) := hA2.read 3; have HS2 := Lib.hid hz.1; clear hz hA2) | (go_at_call 17; refine (held_st HS2.out).mono ?_; rintro e w' ⟨rfl, rfl⟩))
                  go_roundw
                  case rel => exact ⟨k + 1, false, by omega, by go_num, rfl, HS2.out⟩
                  case measure => simp [intOf]; omega
            · have q3 : ((fa : Int) == (at0 : Int)) = false := beq_eq_false_iff_ne.2 (by omega)
              have WR := Lib.hid (fun wz (h : St w at0 v hb wz B g) => reserve_yes h fa wd false n1 (decide_eq_true hw) (decide_eq_false (by rintro ⟨e1, e2, e3⟩; omega)))
              clear hw q1
              as_aux_lemma =>
                go_wp2_with (first | (go_at_call 27; refine (WR.out _ HS.out).mono ?_; rintro e w2 ⟨rfl, hz⟩; have hA2 := HA.out.touch hz.2 HKA.out; have b1 : w2.cell? ⟨A, 1, none⟩ = some (.int .u64 fa) := hA2.read 1; have b3 : w2.cell? ⟨A, 3, none⟩ = some (.int .i64 wd) := hA2.read 3; have HS2 := Lib.hid hz.1; clear hz hA2) | (go_at_call 17; refine (held_st HS2.out).mono ?_; rintro e w' ⟨rfl, rfl⟩))
                go_roundw
                case rel => exact ⟨k + 1, false, by omega, by go_num, rfl, HS2.out⟩
                case measure => simp [intOf]; omega
          · have WR := Lib.hid (fun wz (h : St w at0 v hb wz B g) => reserve_no h fa wd n1 (decide_eq_false hw))
            clear hw
            as_aux_lemma =>
              go_wp2_with (first | (go_at_call 27; refine (WR.out _ HS.out).mono ?_; rintro e w2 ⟨rfl, hz⟩; have HS2 := Lib.hid hz.1; clear hz) | (go_at_call 17; refine (held_st HS2.out).mono ?_; rintro e w' ⟨rfl, rfl⟩))
              go_roundw
              case rel => exact ⟨k + 1, hb, by omega, by go_num, rfl, HS2.out⟩
              case measure => simp [intOf]; omega
        · obtain rfl | rfl := hr8
          all_goals
            as_aux_lemma =>
              go_wp2_with (go_at_call 17; refine (held_st HS.out).mono ?_; rintro e w' ⟨rfl, rfl⟩)
              go_roundw
              case rel => exact ⟨k + 1, hb, by omega, by go_num, rfl, HS.out⟩
              case measure => simp [intOf]; omega
        · by_cases q4 : 4 < wd
          all_goals
            as_aux_lemma =>
              go_wp2_with (first | (go_at_call 15; refine (clear_st HS.out).mono ?_; rintro e w2 ⟨rfl, hz⟩; have HS2 := Lib.hid hz.1; clear hz) | (go_at_call 28; refine (drop_st HS.out).mono ?_; rintro e w2 ⟨rfl, hz⟩; have HS2 := Lib.hid hz.1; clear hz) | (go_at_call 17; refine (held_st HS2.out).mono ?_; rintro e w' ⟨rfl, rfl⟩))
              go_roundw
              case rel => exact ⟨k + 1, false, by omega, by go_num, rfl, HS2.out⟩
              case measure => simp [intOf]; omega
      · have HST := Lib.hid hst
        have hbe : (hb == hb) = true := beq_self_eq_true hb
        clear hst
        go_wp2_with (first | (go_at_call 17; refine (held_st HST.out).mono ?_; rintro e w' ⟨rfl, rfl⟩) | (go_at_call 10; refine (works_any _).mono ?_; rintro e w9 ⟨rfl, bel9⟩))
        go_ret
        exact ⟨rfl, HST.out.bel.trans (bel9.mono HST.out.bel.size)⟩
end Go.Proofs.Ytjdedgfbonlmkaa
