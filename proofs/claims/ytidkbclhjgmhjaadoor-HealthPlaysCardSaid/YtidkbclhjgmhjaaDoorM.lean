/- The document's digits, and its Text. -/
import Derived.Test.YtidkbclhjgmhjaaDoorL
import Derived.WalkSmall
import Derived.Laws.BytesArg
set_option linter.unusedVariables false
set_option linter.unusedSimpArgs false
namespace Go.Proofs.YtidkbclhjgmhjaaDoor
open Go.RowKit
def st (l : List UInt8) : ByteArray := ⟨l.toArray⟩
theorem st_cons (c : UInt8) (l : List UInt8) : (⟨#[c]⟩ : ByteArray) ++ st l = st (c :: l) := by
  apply ByteArray.ext
  simp [st, ByteArray.data_append]
theorem st_size (l : List UInt8) : (st l).size = l.length := by simp [st, ByteArray.size]
def dg (k : Nat) : UInt8 := UInt8.ofNat (48 + k)
def digL (m : Nat) : List UInt8 := if m < 10 then [dg m] else if m < 100 then [dg (m / 10), dg (m % 10)] else [dg (m / 100), dg (m / 10 % 10), dg (m % 10)]
theorem digL_small {m : Nat} (h : m < 10) : digL m = [dg m] := if_pos h
theorem digL_step {m : Nat} (h : 10 ≤ m) (h2 : m < 1000) : digL m = digL (m / 10) ++ [dg (m % 10)] := by
  by_cases h1 : m < 100
  · rw [digL_small (show m / 10 < 10 by omega)]
    show (if m < 10 then _ else _) = _
    rw [if_neg (by omega), if_pos h1]
    rfl
  · show (if m < 10 then _ else _) = _
    rw [if_neg (by omega), if_neg h1]
    show _ = (if m / 10 < 10 then _ else _) ++ _
    rw [if_neg (by omega), if_pos (by omega), Nat.div_div_eq_div_mul]
    rfl
theorem conv_one (c : UInt8) (W : World) : (convert 26 9 (.slice (some ⟨W.heap.size, 0, none⟩) 1 1)).run Tryd.prog (W.alloc (.cells #[.int .u8 c.toNat] 5)) = .ok (.string ⟨#[c]⟩) (W.alloc (.cells #[.int .u8 c.toNat] 5)) := by
  have h := run_convert_bytes_arg (P := Tryd.prog) (W.alloc (.cells #[.int .u8 c.toNat] 5)) 26 5 Tryd.underlying26 Tryd.underlying5 W.heap.size 0 1 1 [(c.toNat : Int)] rfl (fun i hi => by
    obtain rfl : i = 0 := by omega
    simp) 9 Tryd.underlying9
  rw [h]
  simp [strOfNums]
set_option maxHeartbeats 1000000 in
theorem positive_any (n : Nat) (hn : n < 1000) (w : World) : Calls Tryd.prog 25 #[.int .u64 n] w fun e w' => e = .returned (.string (st (digL n))) ∧ Below w.heap.size w w' := by
  go_enter Tryd.func25, Tryd.ntmps25
  go_wp2_with fail
  go_loopw [0, 3] (fun x s wr => ∃ (m : Nat) (t : List UInt8), m < 1000 ∧ t.length + m ≤ 1000 ∧ x = .int .u64 m ∧ s = .string (st t) ∧ digL m ++ t = digL n ∧ Below w.heap.size w wr) (fun x _ _ => (intOf x).toNat)
  case atStart => exact ⟨n, [], hn, by simp; omega, rfl, rfl, by simp, Below.refl _ _⟩
  case round =>
    obtain ⟨m, t, hm, ht, rfl, rfl, hd, hb⟩ := hrel
    have k1 : (0 : Int) ≤ (m : Int) := Int.natCast_nonneg _
    obtain ⟨c, hc0, hx⟩ : ∃ c : UInt8, c = dg (m % 10) ∧ (48 + (m : Int) % 10) = (c.toNat : Int) := ⟨dg (m % 10), rfl, by unfold dg; rw [UInt8.toNat_ofNat']; omega⟩
    have hc := UInt8.toNat_lt c
    have r1 := conv_one c wr
    have hadd := st_cons c t
    have h63 : ¬ 9223372036854775807 < 1 + (st t).size := by rw [st_size]; omega
    have HB := Lib.hid (hb.alloc hb.size (.cells #[.int .u8 c.toNat] 5))
    have HC := Lib.hid (And.intro hc0 hd)
    clear hc0 hd hb
    by_cases h10 : m < 10
    · have hz : (m : Int) / 10 = 0 := by omega
      have HE : Hid (st (c :: t) = st (digL n)) := Lib.hid (by rw [← HC.out.2, digL_small h10, HC.out.1, Nat.mod_eq_of_lt h10]; rfl)
      go_wp2_with fail
      go_ret
      exact ⟨by rw [← HE.out]; rfl, HB.out⟩
    · have hz : ((m : Int) / 10 == 0) = false := beq_eq_false_iff_ne.2 (by omega)
      go_wp2_with fail
      go_roundw
      case rel => exact ⟨m / 10, c :: t, by omega, by simp; omega, by first | go_num | exact val_eq (by omega), rfl, by rw [← HC.out.2, digL_step (by omega) hm, HC.out.1]; simp, HB.out⟩
      case measure => simp [intOf]; omega
theorem digits_any (n : Nat) (hn : n < 1000) (w : World) : Calls Tryd.prog 23 #[.int .i64 n] w fun e w' => e = .returned (.string (st (digL n))) ∧ Below w.heap.size w w' := by
  have HP := Lib.hid (positive_any n hn w)
  go_enter Tryd.func23, Tryd.ntmps23
  go_wp2_with (go_at_call 25; refine HP.out.mono ?_; rintro e w' ⟨rfl, hb⟩)
  go_ret
  exact ⟨rfl, hb⟩
theorem it_dig : ∀ n : Fin 256, (Lib.itoa ((n.1 : Nat) : Int)) = digL n.1 := by decide +kernel
theorem its_st (n : Nat) (h : n < 256) : itS (n : Int) = st (digL n) := by
  unfold itS st
  rw [it_dig ⟨n, h⟩]
def dtxt (p r : Nat) (h : Bool) : ByteArray := bif h then st (digL p) ++ ⟨#[32]⟩ ++ st (digL r) ++ ⟨#[32, 104, 97, 108, 116, 101, 100]⟩ else st (digL p) ++ ⟨#[32]⟩ ++ st (digL r)
theorem txt_same (p r : Nat) (hp : p < 256) (hr : r < 256) (h : Bool) : txt itS p r h = dtxt p r h := by
  unfold txt dtxt
  rw [its_st p hp, its_st r hr]
theorem digL_len (m : Nat) : (digL m).length ≤ 3 := by
  unfold digL
  (repeat' split) <;> simp
section
variable {w w' : World} {C : Nat} {T : Nat → Int} {pg li rs : Int} {R : List Int} {h : Bool} {K : Nat → Prop} {v : Value}
theorem Dv.over {r : Int} (hv : Dv w C T pg li rs R r h K v) (k : Below w.heap.size w w') : Dv w' C T pg li rs R r h K v := ⟨hv.box.over k hv.box.inHeap, hv.lane.below k (Nat.le_refl _), hv.kC, hv.kv⟩
set_option maxHeartbeats 2000000 in
theorem dtext_any (p r : Nat) (hv : Dv w C T pg li rs R r h K v) (hn : R.length ≤ 1000) (hp : pendH R h = (p : Int)) (hp4 : p < 256) (hr : r < 256) : Calls Tryd.prog 18 #[.pointer (some ⟨C, 0, none⟩)] w fun e w' => e = .returned (.string (dtxt p r h)) ∧ Below w.heap.size w w' := by
  have l1 := digL_len p
  have l2 := digL_len r
  have zs : (⟨#[32]⟩ : ByteArray).size = 1 := rfl
  have zh : (⟨#[32, 104, 97, 108, 116, 101, 100]⟩ : ByteArray).size = 7 := rfl
  have y1 : ¬ 9223372036854775807 < (st (digL p)).size + 1 := by rw [st_size]; omega
  have y2 : ¬ 9223372036854775807 < (st (digL p)).size + 1 + (st (digL r)).size := by rw [st_size, st_size]; omega
  have y3 : ¬ 9223372036854775807 < (st (digL p)).size + 1 + (st (digL r)).size + 7 := by rw [st_size, st_size]; omega
  have x1 : IntKind.i64.wrap (p : Int) = (p : Int) := IntWalk.i64_in _ (by omega)
  have HV := Lib.hid (hv.drawn 1)
  have HP := Lib.hid hp
  have HB := Lib.hid (below_drawn (Below.refl w.heap.size w) 1)
  have HN := Lib.hid hn
  clear hv hp hn l1 l2
  go_enter Tryd.func18, Tryd.ntmps18
  go_wp2_with fail
  refine wp_region_calm (fun w' => w'.cell? ⟨C, 21, none⟩ = some (.int .i64 r)) (.e 0 :: .e 4 :: .e 4 :: .e 4 :: .e 4 :: .l 0 :: .e 0 :: .l 0 :: .e 0 :: .l 0 :: .e 0 :: .e 0 :: []) (by kernel_rfl) (by kernel_rfl) (by kernel_rfl) (by kernel_rfl) ?_
  have hHeld : (w.drewN 1).cell? ⟨C, 21, none⟩ = some (.int .i64 r) := HV.out.box.read 21
  repeat (first
    | (refine mv_take0 (v := ?_) (by rfl) hHeld ?_ ?_; rotate_left 1; (focus (intro w hSw; (try dsimp only at hSw); have hs0 := hSw; go_simp; (try with_reducible rfl))); (try simp only [Act.put, List.setIfInBounds_toArray, List.set_cons_zero, List.set_cons_succ]))
    | (refine mv_take4 (v := ?_) (by rfl) hHeld ?_ ?_; rotate_left 1; (focus (intro w hSw; (try dsimp only at hSw); have hs0 := hSw; go_simp; (try with_reducible rfl))); (try simp only [Act.put, List.setIfInBounds_toArray, List.set_cons_zero, List.set_cons_succ]))
    | (refine mv_loud0 (by rfl) (fun K hK => ?_)
       go_simp
       first
         | (go_at_call 14; refine (dpend_any HV.out HN.out).mono ?_; rintro e w5 ⟨rfl, rfl⟩; rw [HP.out]; refine hK.out _ _ hHeld ?_)
         | (go_at_call 23; first | (have hq := H2; clear hq; refine (digits_any r (by omega) _).mono ?_; rintro e w3 ⟨rfl, hb⟩; have H3 := Lib.hid (And.intro (H2.out.1.over hb) (H2.out.2.trans (hb.mono H2.out.2.size))); clear hb; refine hK.out _ _ (H3.out.1.box.read 21) ?_; clear hHeld; have hHeld := H3.out.1.box.read 21) | (refine (digits_any p (by omega) _).mono ?_; rintro e w2 ⟨rfl, hb⟩; have H2 := Lib.hid (And.intro (HV.out.over hb) (HB.out.trans (hb.mono HB.out.size))); clear hb; refine hK.out _ _ (H2.out.1.box.read 21) ?_; clear hHeld; have hHeld := H2.out.1.box.read 21))
       clear hK K
       (try simp only [Act.put, List.setIfInBounds_toArray, List.set_cons_zero, List.set_cons_succ])))
  refine mv_calm ?_
  have c22 : w3.cell? ⟨C, 22, none⟩ = some (.bool h) := H3.out.1.box.read 22
  cases h
  · go_wp2_with fail
    go_ret
    exact ⟨rfl, H3.out.2⟩
  · go_wp2_with fail
    go_ret
    exact ⟨rfl, H3.out.2⟩
end
end Go.Proofs.YtidkbclhjgmhjaaDoor
