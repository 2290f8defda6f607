/- word: the k-th word of a text. -/
import Derived.Test.YtlgefljbhbefgaaDoorPa
set_option linter.unusedVariables false
set_option linter.unusedSimpArgs false
namespace Go.Proofs.YtlgefljbhbefgaaDoor
open Go.RowKit
attribute [local go_sem] Oper.semAt_some
theorem st_get (l : List UInt8) (i : Nat) (h : i < l.length) (wx : World) : (Instr.index 9 (.string (st l)) (.int .i64 i)).run Tryd.prog wx = .ok (.int .u8 (l[i]).toNat) wx := by
  rw [run_index_string (h := Tryd.underlying9), dif_pos ⟨by omega, by rw [st_size]; omega⟩]
  rfl
theorem take_count (l : List UInt8) (i : Nat) (h : i < l.length) : (l.take (i + 1)).count 32 = (l.take i).count 32 + if l[i] = 32 then 1 else 0 := by
  rw [List.take_succ_eq_append_getElem h, List.count_append]
  by_cases e : l[i] = 32
  · simp [e]
  · simp [e, List.count_singleton]
section
variable {pre wd rest : List UInt8} {k : Nat} {w : World}
set_option maxHeartbeats 2000000 in
theorem word_any (hpre : pre = [] ∨ pre.getLast? = some 32) (hc : pre.count 32 = k) (hw : ∀ x ∈ wd, x ≠ 32) (l : List UInt8) (hl : l = pre ++ (wd ++ 32 :: rest)) (hlen : l.length ≤ 1000) (n : Nat) (hn : n = k + 1) (hk : k < 100) :
    Calls Tryd.prog 19 #[.string (st l), .int .i64 n] w fun e w' => e = .returned (.string (st wd)) ∧ w = w' := by
  have hsz : l.length = pre.length + wd.length + 1 + rest.length := by rw [hl]; simp; omega
  have hA : ∀ (i : Nat) (h : i < l.length), i < pre.length → (l.take (i + 1)).count 32 ≤ k := fun i h hi => by
    rw [← hc, hl, List.take_append_of_le_length (by omega)]
    exact (List.take_sublist _ _).count_le _
  have hB : ∀ (i : Nat) (h : i < l.length), i + 1 = pre.length → l[i] = 32 := fun i h hi => by
    rcases hpre with e | e
    · rw [e] at hi; simp at hi
    · have h1 : pre[i]? = some 32 := by rw [List.getLast?_eq_getElem?] at e; rw [← e]; congr 1; omega
      have h2 : l[i]? = some 32 := by rw [hl, List.getElem?_append_left (by omega)]; exact h1
      rw [List.getElem?_eq_getElem h] at h2
      exact Option.some.inj h2
  have hC : ∀ (i : Nat) (h : i < l.length), pre.length ≤ i → i < pre.length + wd.length → l[i] ≠ 32 := fun i h h1 h2 => by
    have h3 : l[i]? = wd[i - pre.length]? := by rw [hl, List.getElem?_append_right h1, List.getElem?_append_left (by omega)]
    rw [List.getElem?_eq_getElem h, List.getElem?_eq_getElem (show i - pre.length < wd.length by omega)] at h3
    rw [Option.some.inj h3]
    exact hw _ (List.getElem_mem _)
  have hD : ∀ (i : Nat) (h : i < l.length), i = pre.length + wd.length → l[i] = 32 := fun i h h1 => by
    have h3 : l[i]? = some 32 := by rw [hl, List.getElem?_append_right (by omega), List.getElem?_append_right (by omega), show i - pre.length - wd.length = 0 by omega]; rfl
    rw [List.getElem?_eq_getElem h] at h3
    exact Option.some.inj h3
  have hE : (l.take (pre.length + wd.length)).count 32 = k := by
    rw [hl, ← List.append_assoc, List.take_append_of_le_length (by simp), List.take_of_length_le (by simp), List.count_append, hc, List.count_eq_zero.2 (fun hm => hw 32 hm rfl)]
    rfl
  have hS : ((st l).extract pre.length (pre.length + wd.length)) = st wd := by
    show ByteArray.extract ⟨l.toArray⟩ _ _ = _
    rw [ByteArray.extract_mk, hl, List.drop_left, Nat.add_sub_cancel_left, List.take_left]; rfl
  have HS := Lib.hid hS
  clear hS
  have HA := Lib.hid hA
  have HB := Lib.hid hB
  have HC := Lib.hid hC
  have HD := Lib.hid hD
  have HE := Lib.hid hE
  have hls : (st l).size = l.length := st_size l
  have hle : pre.length + wd.length < l.length := by omega
  subst hn
  have HL := Lib.hid hl
  clear hl hpre hc hw hA hB hC hD hE hsz
  go_enter Tryd.func19, Tryd.ntmps19
  go_wp2
  go_loop [1, 5, 6] (fun kk a i => ∃ i' a' m : Nat, i = .int .i64 i' ∧ a = .int .i64 a' ∧ kk = .int .i64 m ∧ m + (l.take i').count 32 = k + 1 ∧ 1 ≤ m ∧ i' ≤ pre.length + wd.length ∧ a' ≤ 1000 ∧ (pre.length ≤ i' → a' = pre.length)) (fun _ _ i => 1000 - (intOf i).toNat)
  case atStart => exact ⟨0, 0, k + 1, rfl, rfl, rfl, by simp, by omega, by omega, by omega, fun h => by omega⟩
  case round =>
    obtain ⟨i, a, m, rfl, rfl, rfl, hm, hm1, hi, ha9, ha⟩ := hrel
    have hil : i < l.length := by omega
    have hx := st_get l i hil
    have htc := Lib.hid (take_count l i hil)
    have i1 : (0 : Int) ≤ (i : Int) := Int.natCast_nonneg _
    have i2 : (i : Int) < (l.length : Int) := by omega
    have i3 : (i : Int) < 1000 := by omega
    have m1 : (1 : Int) ≤ (m : Int) := by omega
    have m2 : (m : Int) ≤ 101 := by omega
    have HI := Lib.hid hi
    have HM := Lib.hid hm
    clear hm hi
    by_cases hch : l[i] = 32
    · have hch2 : l[i].toNat = 32 := by rw [hch]; rfl
      rw [hch2] at hx
      by_cases hend : i = pre.length + wd.length
      · have hap := ha (by omega)
        obtain rfl : m = 1 := by have := HM.out; have := HE.out; rw [hend] at *; omega
        have hES : Hid ((st l).extract a i = st wd) := Lib.hid (by rw [hap, hend]; exact HS.out)
        have hai : (a : Int) ≤ (i : Int) := by omega
        have hiz : (i : Int) ≤ ((st l).size : Int) := by rw [hls]; omega
        have ha0 : (0 : Int) ≤ (a : Int) := Int.natCast_nonneg _
        clear ha hap hend hch hch2
        go_wp2
        go_ret
        exact ⟨by rw [← hES.out]; rfl, rfl⟩
      · have hlt : i < pre.length := by
          by_cases h : i < pre.length
          · exact h
          · have := HI.out
            exact absurd hch (HC.out i hil (by omega) (by omega))
        have hcnt := HA.out i hil hlt
        have hb := HB.out i hil
        have hm2 : 2 ≤ m := by have := HM.out; have h5 := htc.out; rw [if_pos hch] at h5; omega
        have e1 : ((m : Int) - 1 == 0) = false := beq_eq_false_iff_ne.2 (by omega)
        have HM2 : Hid (m - 1 + (l.take (i + 1)).count 32 = k + 1) := Lib.hid (by have := HM.out; have h5 := htc.out; rw [if_pos hch] at h5; omega)
        clear ha hch hch2 hcnt hb
        go_wp2
        go_round
        case rel => exact ⟨i + 1, i + 1, m - 1, by go_num, by go_num, by go_num, HM2.out, by omega, by omega, by omega, fun h => by omega⟩
        case measure => simp [intOf]; omega
    · have hch3 : ¬ l[i].toNat = 32 := fun h => hch (UInt8.toNat_inj.1 (by rw [h]; rfl))
      have hne : i ≠ pre.length + wd.length := fun h => hch (HD.out i hil h)
      have hsame : Hid (pre.length ≤ i + 1 → pre.length ≤ i) := Lib.hid (fun h => by
        by_cases h2 : i + 1 = pre.length
        · exact absurd (HB.out i hil h2) hch
        · omega)
      have HM2 : Hid (m + (l.take (i + 1)).count 32 = k + 1) := Lib.hid (by have := HM.out; have h5 := htc.out; rw [if_neg hch] at h5; omega)
      have e1 : ((l[i].toNat : Int) != 32) = true := bne_iff_ne.2 (by omega)
      have HAA := Lib.hid ha
      clear hch hch3 ha
      generalize l[i].toNat = ch at hx e1
      go_wp2
      go_round
      case rel => exact ⟨i + 1, a, m, by go_num, rfl, rfl, HM2.out, by omega, by have := HI.out; omega, ha9, fun h => HAA.out (hsame.out h)⟩
      case measure => simp [intOf]; omega
end
end Go.Proofs.YtlgefljbhbefgaaDoor
