/- The document's Write. -/
import Derived.Test.YtlgefljbhbefgaaDoorDe
set_option linter.unusedVariables false
set_option linter.unusedSimpArgs false
namespace Go.Proofs.YtlgefljbhbefgaaDoor
open Go.RowKit
attribute [local go_sem] Oper.semAt_some
theorem v8_64 (v : Nat) : (v : Int) % 8 = ((v % 8 : Nat) : Int) ∧ (v : Int).tmod 8 = ((v % 8 : Nat) : Int) := ⟨rfl, rfl⟩
/-- Bits of a number, for the sources below k. -/
def DS.ens (d : DS) (c v k : Nat) : DS := { d with en := fun b i => if b = c ∧ 1 ≤ i ∧ i < k then decide (v / 2 ^ i % 2 = 1) else d.en b i }
theorem ens_one (d : DS) (c v : Nat) : d.ens c v 1 = d := by
  unfold DS.ens
  congr 1
  funext b i
  rw [if_neg (by omega)]
theorem ens_next (d : DS) (c v k : Nat) (hk : 1 ≤ k) : ({ d.ens c v k with en := upd2 (d.ens c v k).en c k (decide (v / 2 ^ k % 2 = 1)) } : DS) = d.ens c v (k + 1) := by
  have e : upd2 (d.ens c v k).en c k (decide (v / 2 ^ k % 2 = 1)) = (d.ens c v (k + 1)).en := by
   funext b i
   show (if b = c ∧ i = k then decide (v / 2 ^ k % 2 = 1) else if b = c ∧ 1 ≤ i ∧ i < k then decide (v / 2 ^ i % 2 = 1) else d.en b i) = if b = c ∧ 1 ≤ i ∧ i < k + 1 then decide (v / 2 ^ i % 2 = 1) else d.en b i
   by_cases h1 : b = c
   · by_cases h2 : i = k
     · subst h2
       rw [if_pos ⟨h1, rfl⟩, if_pos ⟨h1, hk, by omega⟩]
     · rw [if_neg (fun h => h2 h.2)]
       by_cases h3 : 1 ≤ i ∧ i < k
       · rw [if_pos ⟨h1, h3⟩, if_pos ⟨h1, h3.1, by omega⟩]
       · rw [if_neg (fun h => h3 h.2), if_neg (fun h => h3 ⟨h.2.1, by omega⟩)]
   · rw [if_neg (fun h => h1 h.1), if_neg (fun h => h1 h.1), if_neg (fun h => h1 h.1)]
  show DS.mk d.pr d.hi d.pe d.se _ d.th = DS.mk d.pr d.hi d.pe d.se _ d.th
  rw [e]
  rfl
theorem low8 : ∀ x, x < 256 → ∀ i, i < 8 → 1 ≤ i → decide ((x - x % 2) / 2 ^ i % 2 = 1) = decide (x / 2 ^ i % 2 = 1) := by decide +kernel
theorem bit_low (v i : Nat) (h1 : 1 ≤ i) (h8 : i < 8) : decide ((v % 4294967296 % 256 - v % 4294967296 % 2) / 2 ^ i % 2 = 1) = decide (v / 2 ^ i % 2 = 1) := by
  have e1 : v % 4294967296 % 256 = v % 256 := by omega
  have e2 : v % 4294967296 % 2 = v % 256 % 2 := by omega
  rw [e1, e2, low8 _ (Nat.mod_lt _ (by decide)) i h8 h1]
  congr 2
  have hi : i = 1 ∨ i = 2 ∨ i = 3 ∨ i = 4 ∨ i = 5 ∨ i = 6 ∨ i = 7 := by omega
  rcases hi with rfl | rfl | rfl | rfl | rfl | rfl | rfl <;> (simp only [Nat.reducePow]; omega)
theorem ens_all {s : PS} (ok : s.ok2) (c : Nat) (hc : c < 2) (v : Nat) : dpl (s.doc.ens c v 8) = dpl (s.setEn c (v % 4294967296)).doc := by
  refine dpl_congr (fun i hi => ⟨rfl, rfl, rfl, rfl⟩) (fun b hb => ⟨rfl, fun i hi => ?_⟩)
  show (if b = c ∧ 1 ≤ i ∧ i < 8 then decide (v / 2 ^ i % 2 = 1) else s.on b i) = decide (upd s.en c (v % 4294967296 % 256 - v % 4294967296 % 2) b / 2 ^ i % 2 = 1)
  by_cases h1 : b = c
  · subst h1
    rw [upd_at]
    by_cases h2 : 1 ≤ i
    · rw [if_pos ⟨rfl, h2, hi⟩, bit_low v i h2 hi]
    · obtain rfl : i = 0 := by omega
      rw [if_neg (by omega)]
      have h5 := ok.en0 b
      unfold PS.on
      have e1 : s.en b / 2 ^ 0 % 2 = 0 := by simpa using h5
      have e2 : (v % 4294967296 % 256 - v % 4294967296 % 2) / 2 ^ 0 % 2 = 0 := by
        rw [Nat.pow_zero, Nat.div_one]; omega
      rw [e1, e2]
  · rw [if_neg (fun h => h1 h.1), upd_ne _ _ h1]
    rfl
theorem bit64 (v : Nat) (hv : v < 18446744073709551616) (k : Nat) (hk : k < 8) : (bits .and .u64 ((v : Int) / 2 ^ k) 1 == 1) = decide (v / 2 ^ k % 2 = 1) := by
  have h1 : ((v : Int) / 2 ^ k) = ((v / 2 ^ k : Nat) : Int) := by rw [Int.natCast_ediv, Int.natCast_pow]; rfl
  have h2 : v / 2 ^ k < 18446744073709551616 := Nat.lt_of_le_of_lt (Nat.div_le_self _ _) hv
  have h3 := bits_and_u64_nat (v / 2 ^ k) 1 h2 (by decide)
  have h4 : v / 2 ^ k &&& 1 = v / 2 ^ k % 2 := by
    rw [show (1 : Nat) = 2 ^ 1 - 1 from rfl, Nat.and_two_pow_sub_one_eq_mod]
  rw [h4] at h3
  rw [h1, show (1 : Int) = ((1 : Nat) : Int) from rfl, h3]
  by_cases h : v / 2 ^ k % 2 = 1
  · rw [h]; rfl
  · have : v / 2 ^ k % 2 = 0 := by omega
    rw [this]; rfl
section
variable {w : World} {D : Nat} {s : PS}
theorem dwrite_no (off v : Nat) (width : Int) (hr : isReg off width = false) : Calls Tryd.prog 27 #[.pointer (some ⟨D, 0, none⟩), .int .u64 off, .int .u64 v, .int .i64 width] w fun e w' => e = .returned (.bool false) ∧ w = w' := by
  have HR := Lib.hid (dmay_any off width w)
  rw [hr] at HR
  clear hr
  go_enter Tryd.func27, Tryd.ntmps27
  go_wp2_with (go_at_call 38; refine HR.out.mono ?_; rintro e w' ⟨rfl, rfl⟩)
  go_ret
  exact ⟨rfl, rfl⟩
set_option maxHeartbeats 2000000 in
set_option maxRecDepth 100000 in
theorem dwrite_none (off v : Nat) (hr : isReg off 4 = true) (hq : ¬ (1 ≤ off / 4 ∧ off / 4 < 8)) (h1 : off ≠ 8320) (h2 : off ≠ 8192) (h3 : off ≠ 2101248) (h4 : off ≠ 2097152) (h5 : off ≠ 2101252) (h6 : off ≠ 2097156) : Calls Tryd.prog 27 #[.pointer (some ⟨D, 0, none⟩), .int .u64 off, .int .u64 v, .int .i64 4] w fun e w' => e = .returned (.bool true) ∧ w = w' := by
  have HR := Lib.hid (dmay_any off 4 w)
  rw [hr] at HR
  have ho4 : off % 4 = 0 := (of_decide_eq_true hr).2.1
  have e1 : ((off : Int) == 8320) = false := beq_eq_false_iff_ne.2 (by omega)
  have e2 : ((off : Int) == 8192) = false := beq_eq_false_iff_ne.2 (by omega)
  have e3 : ((off : Int) == 2101248) = false := beq_eq_false_iff_ne.2 (by omega)
  have e4 : ((off : Int) == 2097152) = false := beq_eq_false_iff_ne.2 (by omega)
  have e5 : ((off : Int) == 2101252) = false := beq_eq_false_iff_ne.2 (by omega)
  have e6 : ((off : Int) == 2097156) = false := beq_eq_false_iff_ne.2 (by omega)
  have hcs : (4 : Int) ≤ (off : Int) ∧ ¬ (off : Int) < 32 ∨ ¬ (4 : Int) ≤ (off : Int) := by omega
  clear hr hq h1 h2 h3 h4 h5 h6 ho4
  rcases hcs with ⟨k1, k2⟩ | k1
  all_goals
    go_enter Tryd.func27, Tryd.ntmps27
    go_wp2_with (go_at_call 38; refine HR.out.mono ?_; rintro e w' ⟨rfl, rfl⟩)
    go_loop [9] (fun x => x = .int .i64 0 ∨ x = .int .i64 1 ∨ x = .int .i64 2) (fun x => 2 - (intOf x).toNat)
    case atStart => exact .inl rfl
    case round =>
      rcases hrel with rfl | rfl | rfl
      · go_wp2
        go_round
        case rel => exact .inr (.inl (by go_num))
        case measure => simp [intOf]
      · go_wp2
        go_round
        case rel => exact .inr (.inr (by go_num))
        case measure => simp [intOf]
      · go_wp2
        go_ret
        exact ⟨rfl, rfl⟩
set_option maxHeartbeats 2000000 in
set_option maxRecDepth 100000 in
theorem dwrite_pri (h : Box w D 32 (dpl s.doc)) (n off v : Nat) (hq : off / 4 = n) (h1 : 1 ≤ n) (h8 : n < 8) (hr : isReg off 4 = true) : Calls Tryd.prog 27 #[.pointer (some ⟨D, 0, none⟩), .int .u64 off, .int .u64 v, .int .i64 4] w fun e w' => e = .returned (.bool true) ∧ Box w' D 32 (dpl (s.setPr n (v % 4294967296)).doc) ∧ Only D w w' := by
  have HR := Lib.hid (dmay_any off 4 w)
  rw [hr] at HR
  have c1 : w.cell? ⟨D, n, none⟩ = some (.int .i64 (s.pr n)) := (h.read _).trans (dpr_at s.doc n h8)
  have f1 := h.warm n
  have HP : Hid (Box (w.setCell ⟨D, n, none⟩ (.int .i64 ((v % 8 : Nat) : Int))) D 32 (dpl (s.setPr n (v % 4294967296)).doc)) := Lib.hid (by
    have h2 := h.put n (.int .i64 ((v % 8 : Nat) : Int))
    rw [dpr_put s.doc (v % 8) n h8] at h2
    have e : s.setPr n (v % 4294967296) = { s with pr := upd s.pr n (v % 8) } := by
      unfold PS.setPr
      rw [show v % 4294967296 % 8 = v % 8 by omega]
    rw [e]
    exact h2)
  have hd1 : (off : Int) / 4 = ((n : Nat) : Int) := by omega
  have hd2 : (off : Int).tdiv 4 = ((n : Nat) : Int) := by rw [← hd1]; rfl
  obtain ⟨hv1, hv2⟩ := v8_64 v
  have hv8 : v % 8 < 8 := Nat.mod_lt _ (by decide)
  generalize v % 8 = y at hv1 hv2 hv8 HP
  have e1 : (4 : Int) ≤ (off : Int) := by omega
  have e2 : (off : Int) < 32 := by omega
  have n0 : (0 : Int) ≤ (n : Int) := Int.natCast_nonneg _
  have n8 : (n : Int) < 8 := by omega
  have hwn : IntKind.u64.wrap (n : Int) = (n : Int) := by rw [IntKind.wrap_u64]; omega
  have hwy := wrap8 y hv8
  have g1 : ((off : Int) == 8320) = false := beq_eq_false_iff_ne.2 (by omega)
  have g2 : ((off : Int) == 8192) = false := beq_eq_false_iff_ne.2 (by omega)
  have g3 : ((off : Int) == 2101248) = false := beq_eq_false_iff_ne.2 (by omega)
  have g4 : ((off : Int) == 2097152) = false := beq_eq_false_iff_ne.2 (by omega)
  have g5 : ((off : Int) == 2101252) = false := beq_eq_false_iff_ne.2 (by omega)
  have g6 : ((off : Int) == 2097156) = false := beq_eq_false_iff_ne.2 (by omega)
  have HO : Hid (Only D w (w.setCell ⟨D, n, none⟩ (.int .i64 (y : Int)))) := Lib.hid ((Only.refl D w).put (p := ⟨D, n, none⟩) (.inl rfl) _)
  clear h hr hq h1 hv8
  go_enter Tryd.func27, Tryd.ntmps27
  go_wp2_with (go_at_call 38; refine HR.out.mono ?_; rintro e w' ⟨rfl, rfl⟩)
  go_loop [9] (fun x => x = .int .i64 0 ∨ x = .int .i64 1 ∨ x = .int .i64 2) (fun x => 2 - (intOf x).toNat)
  case atStart => exact .inl rfl
  case round =>
    rcases hrel with rfl | rfl | rfl
    · go_wp2
      go_round
      case rel => exact .inr (.inl (by go_num))
      case measure => simp [intOf]
    · go_wp2
      go_round
      case rel => exact .inr (.inr (by go_num))
      case measure => simp [intOf]
    · go_wp2
      go_ret
      exact ⟨rfl, HP.out, HO.out⟩
set_option maxHeartbeats 4000000 in
set_option maxRecDepth 100000 in
theorem dwrite_th0 (h : Box w D 32 (dpl s.doc)) (ok : s.ok2) (v : Nat) (hv : v < 18446744073709551616) : Calls Tryd.prog 27 #[.pointer (some ⟨D, 0, none⟩), .int .u64 2097152, .int .u64 v, .int .i64 4] w fun e w' => e = .returned (.bool true) ∧ Box w' D 32 (dpl (s.setTh 0 (v % 4294967296)).doc) ∧ Only D w w' := by
  have HR : Hid (Calls Tryd.prog 38 #[.int .u64 2097152, .int .i64 4] w fun e w' => e = .returned (.bool true) ∧ w = w') := Lib.hid (dmay_any 2097152 4 w)
  have HB := Lib.hid h
  have HOK := Lib.hid ok
  clear h ok
  have c1 : w.cell? ⟨D, 48, none⟩ = some (.int .i64 (s.th 0)) := (HB.out.read _).trans (dth_at s.doc 0 (by decide))
  have f1 := HB.out.warm 48
  have HP : Hid (Box (w.setCell ⟨D, 48, none⟩ (.int .i64 ((v % 8 : Nat) : Int))) D 32 (dpl (s.setTh 0 (v % 4294967296)).doc)) := Lib.hid (by
    have h2 := HB.out.put 48 (.int .i64 ((v % 8 : Nat) : Int))
    rw [show 48 = 48 + 0 from rfl, dth_put s.doc (v % 8) 0 (by decide)] at h2
    have e : s.setTh 0 (v % 4294967296) = { s with th := upd s.th 0 (v % 8) } := by
      unfold PS.setTh
      rw [show v % 4294967296 % 8 = v % 8 by omega]
    rw [e]
    exact h2)
  obtain ⟨hv1, hv2⟩ := v8_64 v
  have hv8 : v % 8 < 8 := Nat.mod_lt _ (by decide)
  generalize v % 8 = y at hv1 hv2 hv8 HP
  have hwy := wrap8 y hv8
  have HO : Hid (Only D w (w.setCell ⟨D, 48, none⟩ (.int .i64 (y : Int)))) := Lib.hid ((Only.refl D w).put (p := ⟨D, 48, none⟩) (.inl rfl) _)
  clear hv8
  go_enter Tryd.func27, Tryd.ntmps27
  go_wp2_with (go_at_call 38; refine HR.out.mono ?_; rintro e w' ⟨rfl, rfl⟩)
  go_loopw [9] (fun x wr => (x = .int .i64 0 ∧ w = wr) ∨ (x = .int .i64 1 ∧ Box wr D 32 (dpl (s.setTh 0 (v % 4294967296)).doc) ∧ Only D w wr) ∨ (x = .int .i64 2 ∧ Box wr D 32 (dpl (s.setTh 0 (v % 4294967296)).doc) ∧ Only D w wr)) (fun x _ => 2 - (intOf x).toNat)
  case atStart => exact .inl ⟨rfl, rfl⟩
  case round =>
    rcases hrel with ⟨rfl, rfl⟩ | ⟨rfl, hb, ho⟩ | ⟨rfl, hb, ho⟩
    · go_wp2
      go_roundw
      case rel => exact .inr (.inl ⟨by go_num, HP.out, HO.out⟩)
      case measure => simp [intOf]
    · have HT := Lib.hid (And.intro hb ho)
      clear hb ho
      go_wp2
      go_roundw
      case rel => exact .inr (.inr ⟨by go_num, HT.out⟩)
      case measure => simp [intOf]
    · go_wp2
      go_ret
      exact ⟨rfl, hb, ho⟩
set_option maxHeartbeats 4000000 in
set_option maxRecDepth 100000 in
theorem dwrite_th1 (h : Box w D 32 (dpl s.doc)) (ok : s.ok2) (v : Nat) (hv : v < 18446744073709551616) : Calls Tryd.prog 27 #[.pointer (some ⟨D, 0, none⟩), .int .u64 2101248, .int .u64 v, .int .i64 4] w fun e w' => e = .returned (.bool true) ∧ Box w' D 32 (dpl (s.setTh 1 (v % 4294967296)).doc) ∧ Only D w w' := by
  have HR : Hid (Calls Tryd.prog 38 #[.int .u64 2101248, .int .i64 4] w fun e w' => e = .returned (.bool true) ∧ w = w') := Lib.hid (dmay_any 2101248 4 w)
  have HB := Lib.hid h
  have HOK := Lib.hid ok
  clear h ok
  have c1 : w.cell? ⟨D, 49, none⟩ = some (.int .i64 (s.th 1)) := (HB.out.read _).trans (dth_at s.doc 1 (by decide))
  have f1 := HB.out.warm 49
  have HP : Hid (Box (w.setCell ⟨D, 49, none⟩ (.int .i64 ((v % 8 : Nat) : Int))) D 32 (dpl (s.setTh 1 (v % 4294967296)).doc)) := Lib.hid (by
    have h2 := HB.out.put 49 (.int .i64 ((v % 8 : Nat) : Int))
    rw [show 49 = 48 + 1 from rfl, dth_put s.doc (v % 8) 1 (by decide)] at h2
    have e : s.setTh 1 (v % 4294967296) = { s with th := upd s.th 1 (v % 8) } := by
      unfold PS.setTh
      rw [show v % 4294967296 % 8 = v % 8 by omega]
    rw [e]
    exact h2)
  obtain ⟨hv1, hv2⟩ := v8_64 v
  have hv8 : v % 8 < 8 := Nat.mod_lt _ (by decide)
  generalize v % 8 = y at hv1 hv2 hv8 HP
  have hwy := wrap8 y hv8
  have HO : Hid (Only D w (w.setCell ⟨D, 49, none⟩ (.int .i64 (y : Int)))) := Lib.hid ((Only.refl D w).put (p := ⟨D, 49, none⟩) (.inl rfl) _)
  clear hv8
  go_enter Tryd.func27, Tryd.ntmps27
  go_wp2_with (go_at_call 38; refine HR.out.mono ?_; rintro e w' ⟨rfl, rfl⟩)
  go_loopw [9] (fun x wr => (x = .int .i64 0 ∧ w = wr) ∨ (x = .int .i64 1 ∧ w = wr) ∨ (x = .int .i64 2 ∧ Box wr D 32 (dpl (s.setTh 1 (v % 4294967296)).doc) ∧ Only D w wr)) (fun x _ => 2 - (intOf x).toNat)
  case atStart => exact .inl ⟨rfl, rfl⟩
  case round =>
    rcases hrel with ⟨rfl, rfl⟩ | ⟨rfl, rfl⟩ | ⟨rfl, hb, ho⟩
    · go_wp2
      go_roundw
      case rel => exact .inr (.inl ⟨by go_num, by first | trivial | rfl⟩)
      case measure => simp [intOf]
    · go_wp2
      go_roundw
      case rel => exact .inr (.inr ⟨by go_num, HP.out, HO.out⟩)
      case measure => simp [intOf]
    · go_wp2
      go_ret
      exact ⟨rfl, hb, ho⟩
set_option maxHeartbeats 4000000 in
set_option maxRecDepth 100000 in
theorem dwrite_cl0 (h : Box w D 32 (dpl s.doc)) (ok : s.ok2) (v : Nat) (hv : v < 18446744073709551616) : Calls Tryd.prog 27 #[.pointer (some ⟨D, 0, none⟩), .int .u64 2097156, .int .u64 v, .int .i64 4] w fun e w' => e = .returned (.bool true) ∧ Box w' D 32 (dpl (s.done 0 (v % 4294967296)).doc) ∧ Only D w w' := by
  have HR : Hid (Calls Tryd.prog 38 #[.int .u64 2097156, .int .i64 4] w fun e w' => e = .returned (.bool true) ∧ w = w') := Lib.hid (dmay_any 2097156 4 w)
  have HB := Lib.hid h
  have HOK := Lib.hid ok
  clear h ok
  have hv1 : (v : Int) % 4294967296 = ((v % 4294967296 : Nat) : Int) := rfl
  have hv2 : (v : Int).tmod 4294967296 = ((v % 4294967296 : Nat) : Int) := rfl
  have hv8 : v % 4294967296 < 4294967296 := Nat.mod_lt _ (by decide)
  generalize v % 4294967296 = y at hv1 hv2 hv8 ⊢
  have hwy : IntKind.u64.wrap (y : Int) = (y : Int) := by rw [IntKind.wrap_u64]; omega
  have y0 : (0 : Int) ≤ (y : Int) := Int.natCast_nonneg _
  go_enter Tryd.func27, Tryd.ntmps27
  go_wp2_with (go_at_call 38; refine HR.out.mono ?_; rintro e w' ⟨rfl, rfl⟩)
  go_loopw [9] (fun x wr => (x = .int .i64 0 ∧ w = wr) ∨ (x = .int .i64 1 ∧ Box wr D 32 (dpl (s.done 0 y).doc) ∧ Only D w wr) ∨ (x = .int .i64 2 ∧ Box wr D 32 (dpl (s.done 0 y).doc) ∧ Only D w wr)) (fun x _ => 2 - (intOf x).toNat)
  case atStart => exact .inl ⟨rfl, rfl⟩
  case round =>
    rcases hrel with ⟨rfl, rfl⟩ | ⟨rfl, hb, ho⟩ | ⟨rfl, hb, ho⟩
    · by_cases h8 : y < 8
      · have y8 : (y : Int) < 8 := by omega
        have c1 : w.cell? ⟨D, 32 + y, none⟩ = some (.bool (s.on 0 y)) := (HB.out.read _).trans (den_at s.doc 0 (by decide) y h8)
        by_cases hon : s.on 0 y = true
        · have y1 : 1 ≤ y := by
            by_cases h0 : y = 0
            · subst h0
              have h5 := HOK.out.en0 0
              unfold PS.on at hon
              simp at hon
              omega
            · omega
          rw [hon] at c1
          have f1 := HB.out.warm (24 + y)
          have c2 : w.cell? ⟨D, 24 + y, none⟩ = some (.bool (s.se y)) := (HB.out.read _).trans (dse_at s.doc y h8)
          have hp := HB.out.put (24 + y) (.bool false)
          rw [dse_put s.doc false y h8] at hp
          have HT := Lib.hid (gates_any hp)
          have HG := Lib.hid (gates_done HOK.out.ok 0 y y1 h8 hon)
          have HO : Hid (Only D w (w.setCell ⟨D, 24 + y, none⟩ (.bool false))) := Lib.hid ((Only.refl D w).put (p := ⟨D, 24 + y, none⟩) (.inl rfl) _)
          clear hp hon h8 hv8
          go_wp2_with (go_at_call 37; refine HT.out.mono ?_; rintro e w' ⟨rfl, hb, ho⟩; have HQ := Lib.hid (And.intro hb ho); clear hb ho)
          go_roundw
          case rel => exact .inr (.inl ⟨by go_num, by rw [← HG.out]; exact HQ.out.1, HO.out.trans HQ.out.2⟩)
          case measure => simp [intOf]
        · have e : s.done 0 y = s := by rw [PS.done, if_neg (fun h => hon h.2.2.1)]
          have hon2 : s.on 0 y = false := Bool.eq_false_iff.2 hon
          rw [hon2] at c1
          have HE := Lib.hid e
          clear hon hon2 e h8 hv8
          go_wp2
          go_roundw
          case rel => exact .inr (.inl ⟨by go_num, by rw [HE.out]; exact HB.out, Only.refl _ _⟩)
          case measure => simp [intOf]
      · have y8 : ¬ (y : Int) < 8 := by omega
        have e : s.done 0 y = s := by rw [PS.done, if_neg (fun h => h8 h.2.1)]
        have HE := Lib.hid e
        clear e h8 hv8
        go_wp2
        go_roundw
        case rel => exact .inr (.inl ⟨by go_num, by rw [HE.out]; exact HB.out, Only.refl _ _⟩)
        case measure => simp [intOf]
    · have HT := Lib.hid (And.intro hb ho)
      clear hb ho
      go_wp2
      go_roundw
      case rel => exact .inr (.inr ⟨by go_num, HT.out⟩)
      case measure => simp [intOf]
    · go_wp2
      go_ret
      exact ⟨rfl, hb, ho⟩
set_option maxHeartbeats 4000000 in
set_option maxRecDepth 100000 in
theorem dwrite_cl1 (h : Box w D 32 (dpl s.doc)) (ok : s.ok2) (v : Nat) (hv : v < 18446744073709551616) : Calls Tryd.prog 27 #[.pointer (some ⟨D, 0, none⟩), .int .u64 2101252, .int .u64 v, .int .i64 4] w fun e w' => e = .returned (.bool true) ∧ Box w' D 32 (dpl (s.done 1 (v % 4294967296)).doc) ∧ Only D w w' := by
  have HR : Hid (Calls Tryd.prog 38 #[.int .u64 2101252, .int .i64 4] w fun e w' => e = .returned (.bool true) ∧ w = w') := Lib.hid (dmay_any 2101252 4 w)
  have HB := Lib.hid h
  have HOK := Lib.hid ok
  clear h ok
  have hv1 : (v : Int) % 4294967296 = ((v % 4294967296 : Nat) : Int) := rfl
  have hv2 : (v : Int).tmod 4294967296 = ((v % 4294967296 : Nat) : Int) := rfl
  have hv8 : v % 4294967296 < 4294967296 := Nat.mod_lt _ (by decide)
  generalize v % 4294967296 = y at hv1 hv2 hv8 ⊢
  have hwy : IntKind.u64.wrap (y : Int) = (y : Int) := by rw [IntKind.wrap_u64]; omega
  have y0 : (0 : Int) ≤ (y : Int) := Int.natCast_nonneg _
  go_enter Tryd.func27, Tryd.ntmps27
  go_wp2_with (go_at_call 38; refine HR.out.mono ?_; rintro e w' ⟨rfl, rfl⟩)
  go_loopw [9] (fun x wr => (x = .int .i64 0 ∧ w = wr) ∨ (x = .int .i64 1 ∧ w = wr) ∨ (x = .int .i64 2 ∧ Box wr D 32 (dpl (s.done 1 y).doc) ∧ Only D w wr)) (fun x _ => 2 - (intOf x).toNat)
  case atStart => exact .inl ⟨rfl, rfl⟩
  case round =>
    rcases hrel with ⟨rfl, rfl⟩ | ⟨rfl, rfl⟩ | ⟨rfl, hb, ho⟩
    · go_wp2
      go_roundw
      case rel => exact .inr (.inl ⟨by go_num, by first | trivial | rfl⟩)
      case measure => simp [intOf]
    · by_cases h8 : y < 8
      · have y8 : (y : Int) < 8 := by omega
        have c1 : w.cell? ⟨D, 40 + y, none⟩ = some (.bool (s.on 1 y)) := (HB.out.read _).trans (den_at s.doc 1 (by decide) y h8)
        by_cases hon : s.on 1 y = true
        · have y1 : 1 ≤ y := by
            by_cases h0 : y = 0
            · subst h0
              have h5 := HOK.out.en0 1
              unfold PS.on at hon
              simp at hon
              omega
            · omega
          rw [hon] at c1
          have f1 := HB.out.warm (24 + y)
          have c2 : w.cell? ⟨D, 24 + y, none⟩ = some (.bool (s.se y)) := (HB.out.read _).trans (dse_at s.doc y h8)
          have hp := HB.out.put (24 + y) (.bool false)
          rw [dse_put s.doc false y h8] at hp
          have HT := Lib.hid (gates_any hp)
          have HG := Lib.hid (gates_done HOK.out.ok 1 y y1 h8 hon)
          have HO : Hid (Only D w (w.setCell ⟨D, 24 + y, none⟩ (.bool false))) := Lib.hid ((Only.refl D w).put (p := ⟨D, 24 + y, none⟩) (.inl rfl) _)
          clear hp hon h8 hv8
          go_wp2_with (go_at_call 37; refine HT.out.mono ?_; rintro e w' ⟨rfl, hb, ho⟩; have HQ := Lib.hid (And.intro hb ho); clear hb ho)
          go_roundw
          case rel => exact .inr (.inr ⟨by go_num, by rw [← HG.out]; exact HQ.out.1, HO.out.trans HQ.out.2⟩)
          case measure => simp [intOf]
        · have e : s.done 1 y = s := by rw [PS.done, if_neg (fun h => hon h.2.2.1)]
          have hon2 : s.on 1 y = false := Bool.eq_false_iff.2 hon
          rw [hon2] at c1
          have HE := Lib.hid e
          clear hon hon2 e h8 hv8
          go_wp2
          go_roundw
          case rel => exact .inr (.inr ⟨by go_num, by rw [HE.out]; exact HB.out, Only.refl _ _⟩)
          case measure => simp [intOf]
      · have y8 : ¬ (y : Int) < 8 := by omega
        have e : s.done 1 y = s := by rw [PS.done, if_neg (fun h => h8 h.2.1)]
        have HE := Lib.hid e
        clear e h8 hv8
        go_wp2
        go_roundw
        case rel => exact .inr (.inr ⟨by go_num, by rw [HE.out]; exact HB.out, Only.refl _ _⟩)
        case measure => simp [intOf]
    · go_wp2
      go_ret
      exact ⟨rfl, hb, ho⟩
set_option maxHeartbeats 4000000 in
set_option maxRecDepth 100000 in
theorem dwrite_en0 (h : Box w D 32 (dpl s.doc)) (ok : s.ok2) (v : Nat) (hv : v < 18446744073709551616) : Calls Tryd.prog 27 #[.pointer (some ⟨D, 0, none⟩), .int .u64 8192, .int .u64 v, .int .i64 4] w fun e w' => e = .returned (.bool true) ∧ Box w' D 32 (dpl (s.setEn 0 (v % 4294967296)).doc) ∧ Only D w w' := by
  have HR : Hid (Calls Tryd.prog 38 #[.int .u64 8192, .int .i64 4] w fun e w' => e = .returned (.bool true) ∧ w = w') := Lib.hid (dmay_any 8192 4 w)
  have HB := Lib.hid h
  have HOK := Lib.hid ok
  clear h ok
  go_enter Tryd.func27, Tryd.ntmps27
  go_wp2_with (go_at_call 38; refine HR.out.mono ?_; rintro e w' ⟨rfl, rfl⟩)
  go_loopw [9] (fun x wr => (x = .int .i64 0 ∧ w = wr) ∨ (x = .int .i64 1 ∧ Box wr D 32 (dpl (s.setEn 0 (v % 4294967296)).doc) ∧ Only D w wr) ∨ (x = .int .i64 2 ∧ Box wr D 32 (dpl (s.setEn 0 (v % 4294967296)).doc) ∧ Only D w wr)) (fun x _ => 2 - (intOf x).toNat)
  case atStart => exact .inl ⟨rfl, rfl⟩
  case round =>
    rcases hrel with ⟨rfl, rfl⟩ | ⟨rfl, hb, ho⟩ | ⟨rfl, hb, ho⟩
    · go_wp2
      go_loopw [10] (fun x wr => ∃ i : Nat, 1 ≤ i ∧ i ≤ 8 ∧ x = .int .i64 i ∧ Box wr D 32 (dpl (s.doc.ens 0 v i)) ∧ Only D w wr) (fun x _ => 8 - (intOf x).toNat)
      case atStart => exact ⟨1, by omega, by omega, rfl, by rw [ens_one]; exact HB.out, Only.refl _ _⟩
      case round =>
        obtain ⟨i, hi1, hi8, rfl, hb, hoo⟩ := hrel
        have i0 : (0 : Int) ≤ (i : Int) := Int.natCast_nonneg _
        by_cases hlt : i < 8
        · have i8 : (i : Int) < 8 := by omega
          have HBB := Lib.hid (And.intro hb hoo)
          clear hb hoo
          have hbit := bit64 v hv i hlt
          go_wp2
          refine wp_region_quiet_at 12 (by kernel_rfl) (by kernel_rfl) (by kernel_rfl) (by kernel_rfl) ?_
          simp only [List.take_succ_cons, List.take_zero, List.drop_succ_cons, List.drop_zero]
          repeat (go_big_quiet_step (fail))
          refine wpQuiet_nil ?_
          intro w9 hw9
          obtain ⟨nq, hw9⟩ := hw9
          subst hw9
          have H9 := Lib.hid (And.intro (HBB.out.1.drawn nq) (HBB.out.2.drawn nq))
          clear HBB
          generalize wr.drewN nq = w3 at H9 ⊢
          have c : w3.cell? ⟨D, 32 + i, none⟩ = some (.bool ((s.doc.ens 0 v i).en 0 i)) := (H9.out.1.read _).trans (den_at _ 0 (by decide) i hlt)
          have cf := H9.out.1.warm (32 + i)
          have HP := Lib.hid (H9.out.1.put (32 + i) (.bool (decide (v / 2 ^ i % 2 = 1))))
          rw [show 32 + i = 32 + 0 * 8 + i from rfl, den_put _ _ 0 (by decide) i hlt, ens_next s.doc 0 v i hi1] at HP
          go_wp2
          go_roundw
          case rel => exact ⟨i + 1, by omega, by omega, by go_num, HP.out, H9.out.2.put (p := ⟨D, 32 + i, none⟩) (.inl rfl) _⟩
          case measure => simp [intOf]; omega
        · obtain rfl : i = 8 := by omega
          have HP : Hid (Box wr D 32 (dpl (s.setEn 0 (v % 4294967296)).doc) ∧ Only D w wr) := Lib.hid ⟨by rw [← ens_all HOK.out 0 (by decide) v]; exact hb, hoo⟩
          clear hb hoo
          go_wp2
          go_roundw
          case rel => exact .inr (.inl ⟨by go_num, HP.out⟩)
          case measure => simp [intOf]
    · have HT := Lib.hid (And.intro hb ho)
      clear hb ho
      go_wp2
      go_roundw
      case rel => exact .inr (.inr ⟨by go_num, HT.out⟩)
      case measure => simp [intOf]
    · go_wp2
      go_ret
      exact ⟨rfl, hb, ho⟩
set_option maxHeartbeats 4000000 in
set_option maxRecDepth 100000 in
theorem dwrite_en1 (h : Box w D 32 (dpl s.doc)) (ok : s.ok2) (v : Nat) (hv : v < 18446744073709551616) : Calls Tryd.prog 27 #[.pointer (some ⟨D, 0, none⟩), .int .u64 8320, .int .u64 v, .int .i64 4] w fun e w' => e = .returned (.bool true) ∧ Box w' D 32 (dpl (s.setEn 1 (v % 4294967296)).doc) ∧ Only D w w' := by
  have HR : Hid (Calls Tryd.prog 38 #[.int .u64 8320, .int .i64 4] w fun e w' => e = .returned (.bool true) ∧ w = w') := Lib.hid (dmay_any 8320 4 w)
  have HB := Lib.hid h
  have HOK := Lib.hid ok
  clear h ok
  go_enter Tryd.func27, Tryd.ntmps27
  go_wp2_with (go_at_call 38; refine HR.out.mono ?_; rintro e w' ⟨rfl, rfl⟩)
  go_loopw [9] (fun x wr => (x = .int .i64 0 ∧ w = wr) ∨ (x = .int .i64 1 ∧ w = wr) ∨ (x = .int .i64 2 ∧ Box wr D 32 (dpl (s.setEn 1 (v % 4294967296)).doc) ∧ Only D w wr)) (fun x _ => 2 - (intOf x).toNat)
  case atStart => exact .inl ⟨rfl, rfl⟩
  case round =>
    rcases hrel with ⟨rfl, rfl⟩ | ⟨rfl, rfl⟩ | ⟨rfl, hb, ho⟩
    · go_wp2
      go_roundw
      case rel => exact .inr (.inl ⟨by go_num, by first | trivial | rfl⟩)
      case measure => simp [intOf]
    · go_wp2
      go_loopw [10] (fun x wr => ∃ i : Nat, 1 ≤ i ∧ i ≤ 8 ∧ x = .int .i64 i ∧ Box wr D 32 (dpl (s.doc.ens 1 v i)) ∧ Only D w wr) (fun x _ => 8 - (intOf x).toNat)
      case atStart => exact ⟨1, by omega, by omega, rfl, by rw [ens_one]; exact HB.out, Only.refl _ _⟩
      case round =>
        obtain ⟨i, hi1, hi8, rfl, hb, hoo⟩ := hrel
        have i0 : (0 : Int) ≤ (i : Int) := Int.natCast_nonneg _
        by_cases hlt : i < 8
        · have i8 : (i : Int) < 8 := by omega
          have HBB := Lib.hid (And.intro hb hoo)
          clear hb hoo
          have hbit := bit64 v hv i hlt
          go_wp2
          refine wp_region_quiet_at 12 (by kernel_rfl) (by kernel_rfl) (by kernel_rfl) (by kernel_rfl) ?_
          simp only [List.take_succ_cons, List.take_zero, List.drop_succ_cons, List.drop_zero]
          repeat (go_big_quiet_step (fail))
          refine wpQuiet_nil ?_
          intro w9 hw9
          obtain ⟨nq, hw9⟩ := hw9
          subst hw9
          have H9 := Lib.hid (And.intro (HBB.out.1.drawn nq) (HBB.out.2.drawn nq))
          clear HBB
          generalize wr.drewN nq = w3 at H9 ⊢
          have c : w3.cell? ⟨D, 40 + i, none⟩ = some (.bool ((s.doc.ens 1 v i).en 1 i)) := (H9.out.1.read _).trans (den_at _ 1 (by decide) i hlt)
          have cf := H9.out.1.warm (40 + i)
          have HP := Lib.hid (H9.out.1.put (40 + i) (.bool (decide (v / 2 ^ i % 2 = 1))))
          rw [show 40 + i = 32 + 1 * 8 + i from rfl, den_put _ _ 1 (by decide) i hlt, ens_next s.doc 1 v i hi1] at HP
          go_wp2
          go_roundw
          case rel => exact ⟨i + 1, by omega, by omega, by go_num, HP.out, H9.out.2.put (p := ⟨D, 40 + i, none⟩) (.inl rfl) _⟩
          case measure => simp [intOf]; omega
        · obtain rfl : i = 8 := by omega
          have HP : Hid (Box wr D 32 (dpl (s.setEn 1 (v % 4294967296)).doc) ∧ Only D w wr) := Lib.hid ⟨by rw [← ens_all HOK.out 1 (by decide) v]; exact hb, hoo⟩
          clear hb hoo
          go_wp2
          go_roundw
          case rel => exact .inr (.inr ⟨by go_num, HP.out⟩)
          case measure => simp [intOf]
    · go_wp2
      go_ret
      exact ⟨rfl, hb, ho⟩
theorem dwrite_any (h : Box w D 32 (dpl s.doc)) (ok : s.ok2) (off v : Nat) (hv : v < 18446744073709551616) (wd : Int) : Calls Tryd.prog 27 #[.pointer (some ⟨D, 0, none⟩), .int .u64 off, .int .u64 v, .int .i64 wd] w fun e w' => e = .returned (.bool (isReg off wd)) ∧ Box w' D 32 (dpl (s.wrI off v wd).doc) ∧ Only D w w' := by
  unfold PS.wrI
  by_cases hr : isReg off wd = true
  · obtain rfl := isReg_width hr
    rw [if_pos hr, hr]
    by_cases hp : 1 ≤ off / 4 ∧ off / 4 < 8
    · have e : s.wr off (v % 4294967296) = s.setPr (off / 4) (v % 4294967296) := by rw [PS.wr, if_pos hp]
      rw [e]
      exact dwrite_pri h (off / 4) off v rfl hp.1 hp.2 hr
    by_cases hen1 : off = 8320
    · subst hen1
      exact dwrite_en1 h ok v hv
    by_cases hen0 : off = 8192
    · subst hen0
      exact dwrite_en0 h ok v hv
    by_cases hth1 : off = 2101248
    · subst hth1
      exact dwrite_th1 h ok v hv
    by_cases hth0 : off = 2097152
    · subst hth0
      exact dwrite_th0 h ok v hv
    by_cases hcl1 : off = 2101252
    · subst hcl1
      exact dwrite_cl1 h ok v hv
    by_cases hcl0 : off = 2097156
    · subst hcl0
      exact dwrite_cl0 h ok v hv
    have e : s.wr off (v % 4294967296) = s := by rw [PS.wr, if_neg hp, if_neg hen1, if_neg hen0, if_neg hth1, if_neg hth0, if_neg hcl1, if_neg hcl0]; split <;> rfl
    rw [e]
    exact (dwrite_none off v hr hp hen1 hen0 hth1 hth0 hcl1 hcl0).mono fun e w' hz => ⟨hz.1, hz.2 ▸ h, hz.2 ▸ Only.refl D w⟩
  · rw [if_neg hr, Bool.eq_false_iff.2 hr]
    exact (dwrite_no off v wd (Bool.eq_false_iff.2 hr)).mono fun e w' hz => ⟨hz.1, hz.2 ▸ h, hz.2 ▸ Only.refl D w⟩
end
end Go.Proofs.YtlgefljbhbefgaaDoor
