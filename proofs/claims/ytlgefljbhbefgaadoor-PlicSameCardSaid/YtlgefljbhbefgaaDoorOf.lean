/- FormatUint at base 16 of a number below 16. -/
import Derived.Test.YtlgefljbhbefgaaDoorOe
import Derived.Laws.BytesArg
import Derived.Lib.ItoaMem
set_option linter.unusedVariables false
set_option linter.unusedSimpArgs false
namespace Go.Proofs.YtlgefljbhbefgaaDoor
open Go.RowKit
attribute [local go_sem] Oper.semAt_some
/-- A digit of sixteen. -/
def hx (n : Nat) : UInt8 := if n < 10 then UInt8.ofNat (48 + n) else UInt8.ofNat (87 + n)
abbrev d36 : ByteArray := ⟨#[48, 49, 50, 51, 52, 53, 54, 55, 56, 57, 97, 98, 99, 100, 101, 102, 103, 104, 105, 106, 107, 108, 109, 110, 111, 112, 113, 114, 115, 116, 117, 118, 119, 120, 121, 122]⟩
theorem d36_at : ∀ q, (h : q < 16) → d36[q]'(Nat.lt_of_lt_of_le h (by decide)) = hx q := by decide +kernel
theorem dix36 (q : Nat) (h : q < 16) (wx : World) : (Instr.index 9 (.string d36) (.int .u64 q)).run Tryd.prog wx = .ok (.int .u8 (hx q).toNat) wx := by
  rw [run_index_string (h := Tryd.underlying9), dif_pos ⟨by omega, by show (q : Int) < 36; omega⟩]
  have : d36[(q : Int).toNat]'(by show (q : Int).toNat < 36; omega) = hx q := d36_at q h
  rw [this]
theorem z88_64 : Tryd.zeroCells88[64]? = some (.int .u8 0) := by kernel_rfl
theorem z88_63 : Tryd.zeroCells88[63]? = some (.int .u8 0) := by kernel_rfl
set_option maxHeartbeats 4000000 in
set_option maxRecDepth 100000 in
theorem bits_small {w : World} (htz : Tz16 w) (n : Nat) (hn : n < 16) : Calls Tryd.prog 56 #[.slice none 0 0, .int .u64 n, .int .i64 16, .bool false, .bool false] w fun e w' => e = .returned (.tuple #[.slice none 0 0, .string ⟨[hx n].toArray⟩]) ∧ Below w.heap.size w w' := by
  have HT : Hid (∀ W, Below w.heap.size w W → Calls Tryd.prog 61 #[.int .u64 16] W fun e w' => e = .returned (.int .i64 4) ∧ w' = W) := Lib.hid fun W hb => tz_any (fun W2 hb2 => htz W2 (hb.trans (hb2.mono hb.size)))
  have n16 : ¬ (16 : Int) ≤ (n : Int) := by omega
  have hix := dix36 n hn
  have HX := Lib.hid (Box.made w 88 Tryd.zeroCells88)
  have T0 : Hid (Below w.heap.size w (w.alloc (.cells Tryd.zeroCells88 88))) := Lib.hid ((Below.refl _ _).alloc (Nat.le_refl _) _)
  go_enter Tryd.func56, Tryd.ntmps56
  go_wp2_with (first
    | (go_at_call 60; refine (pow16 _).mono ?_; rintro e w' ⟨rfl, rfl⟩)
    | (go_at_call 61; refine (HT.out _ ((Below.refl _ _).alloc (Nat.le_refl _) _)).mono ?_; rintro e w' ⟨rfl, rfl⟩))
  generalize (w.alloc (.cells Tryd.zeroCells88 88)) = w1 at HX T0 ⊢
  go_loop [1, 13] (fun u i => u = .int .u64 n ∧ i = .int .i64 65) (fun _ _ => 0)
  case atStart => exact ⟨rfl, rfl⟩
  case round =>
    obtain ⟨rfl, rfl⟩ := hrel
    have c64 : w1.cell? ⟨w.heap.size, 64, none⟩ = some (.int .u8 0) := (HX.out.read 64).trans z88_64
    have f64 := HX.out.warm 64
    have X2 := HX.out.put 64 (.int .u8 ((hx n).toNat : Int))
    have hcv : (convert 83 9 (.slice (some ⟨w.heap.size, 64, none⟩) 1 1)).run Tryd.prog (w1.setCell ⟨w.heap.size, 64, none⟩ (.int .u8 ((hx n).toNat : Int))) = .ok (.string ⟨[hx n].toArray⟩) (w1.setCell ⟨w.heap.size, 64, none⟩ (.int .u8 ((hx n).toNat : Int))) :=
      run_convert_bytes_back (P := Tryd.prog) _ 83 9 5 ⟨w.heap.size, 64, none⟩ 1 [hx n] Tryd.underlying83 Tryd.underlying5 Tryd.underlying9 (fun j hj => by
        have : j = 0 := by simpa using hj
        subst this
        rw [Lib.add_plain]
        exact World.cell?_setCell_same _ _ _ c64)
    have HO := Lib.hid (T0.out.setCell (p := ⟨w.heap.size, 64, none⟩) (Nat.le_refl _) (.int .u8 ((hx n).toNat : Int)))
    go_wp2
    go_ret2
    exact ⟨rfl, HO.out⟩
set_option maxHeartbeats 8000000 in
set_option maxRecDepth 100000 in
theorem bits_two {w : World} (htz : Tz16 w) (n q r : Nat) (hn : n < 256) (h16 : 16 ≤ n) (hq : n / 16 = q) (hr : n % 16 = r) : Calls Tryd.prog 56 #[.slice none 0 0, .int .u64 n, .int .i64 16, .bool false, .bool false] w fun e w' => e = .returned (.tuple #[.slice none 0 0, .string ⟨[hx q, hx r].toArray⟩]) ∧ Below w.heap.size w w' := by
  have HT : Hid (∀ W, Below w.heap.size w W → Calls Tryd.prog 61 #[.int .u64 16] W fun e w' => e = .returned (.int .i64 4) ∧ w' = W) := Lib.hid fun W hb => tz_any (fun W2 hb2 => htz W2 (hb.trans (hb2.mono hb.size)))
  have n16 : (16 : Int) ≤ (n : Int) := by omega
  have hq16 : q < 16 := by omega
  have q16 : ¬ (16 : Int) ≤ (q : Int) := by omega
  have hixq := dix36 q hq16
  have hixr := dix36 r (by omega)
  have hand : bits .and .u64 (n : Int) 15 = (r : Int) := by
    have h := bits_and_u64_nat n 15 (by omega) (by decide)
    rw [show (15 : Nat) = 2 ^ 4 - 1 from rfl, Nat.and_two_pow_sub_one_eq_mod] at h
    rw [← hr]
    exact h
  have hdiv : (n : Int) / 16 = (q : Int) := by omega
  have HX := Lib.hid (Box.made w 88 Tryd.zeroCells88)
  have T0 : Hid (Below w.heap.size w (w.alloc (.cells Tryd.zeroCells88 88))) := Lib.hid ((Below.refl _ _).alloc (Nat.le_refl _) _)
  clear hq hr h16 hn
  go_enter Tryd.func56, Tryd.ntmps56
  go_wp2_with (first
    | (go_at_call 60; refine (pow16 _).mono ?_; rintro e w' ⟨rfl, rfl⟩)
    | (go_at_call 61; refine (HT.out _ ((Below.refl _ _).alloc (Nat.le_refl _) _)).mono ?_; rintro e w' ⟨rfl, rfl⟩))
  generalize (w.alloc (.cells Tryd.zeroCells88 88)) = w1 at HX T0 ⊢
  go_loopw [1, 13] (fun u i wr => (u = .int .u64 n ∧ i = .int .i64 65 ∧ wr = w1) ∨ (u = .int .u64 q ∧ i = .int .i64 64 ∧ wr = w1.setCell ⟨w.heap.size, 64, none⟩ (.int .u8 ((hx r).toNat : Int)))) (fun _ i _ => (intOf i).toNat)
  case atStart => exact .inl ⟨rfl, rfl, rfl⟩
  case round =>
    have c64 : w1.cell? ⟨w.heap.size, 64, none⟩ = some (.int .u8 0) := (HX.out.read 64).trans z88_64
    have f64 := HX.out.warm 64
    have X2 := Lib.hid (HX.out.put 64 (.int .u8 ((hx r).toNat : Int)))
    have c63 : (w1.setCell ⟨w.heap.size, 64, none⟩ (.int .u8 ((hx r).toNat : Int))).cell? ⟨w.heap.size, 63, none⟩ = some (.int .u8 0) := by
      rw [World.cell?_setCell_other _ _ _ _ (by simp)]
      exact (HX.out.read 63).trans z88_63
    have f63 := X2.out.warm 63
    have c64b : (w1.setCell ⟨w.heap.size, 64, none⟩ (.int .u8 ((hx r).toNat : Int))).cell? ⟨w.heap.size, 64, none⟩ = some (.int .u8 ((hx r).toNat : Int)) := World.cell?_setCell_same _ _ _ c64
    have hcv : (convert 83 9 (.slice (some ⟨w.heap.size, 63, none⟩) 2 2)).run Tryd.prog ((w1.setCell ⟨w.heap.size, 64, none⟩ (.int .u8 ((hx r).toNat : Int))).setCell ⟨w.heap.size, 63, none⟩ (.int .u8 ((hx q).toNat : Int))) = .ok (.string ⟨[hx q, hx r].toArray⟩) ((w1.setCell ⟨w.heap.size, 64, none⟩ (.int .u8 ((hx r).toNat : Int))).setCell ⟨w.heap.size, 63, none⟩ (.int .u8 ((hx q).toNat : Int))) :=
      run_convert_bytes_back (P := Tryd.prog) _ 83 9 5 ⟨w.heap.size, 63, none⟩ 2 [hx q, hx r] Tryd.underlying83 Tryd.underlying5 Tryd.underlying9 (fun j hj => by
        rw [Lib.add_plain]
        have : j = 0 ∨ j = 1 := by simp at hj; omega
        rcases this with rfl | rfl
        · exact World.cell?_setCell_same _ _ _ c63
        · rw [World.cell?_setCell_other _ _ _ _ (by simp)]
          exact c64b)
    have HO := Lib.hid ((T0.out.setCell (p := ⟨w.heap.size, 64, none⟩) (Nat.le_refl _) (.int .u8 ((hx r).toNat : Int))).setCell (p := ⟨w.heap.size, 63, none⟩) (Nat.le_refl _) (.int .u8 ((hx q).toNat : Int)))
    rcases hrel with ⟨rfl, rfl, rfl⟩ | ⟨rfl, rfl, rfl⟩
    · clear c63 f63 c64b hcv
      go_wp2
      go_roundw
      case rel => exact .inr ⟨rfl, by go_num, by first | trivial | rfl⟩
      case measure => simp [intOf]
    · clear c64 f64
      go_wp2
      go_ret2
      exact ⟨rfl, HO.out⟩
/-- The digits, at base 16. -/
def hex8 (n : Nat) : List UInt8 := if n < 16 then [hx n] else [hx (n / 16), hx (n % 16)]
theorem format16 {w : World} (htz : Tz16 w) (n : Nat) (hn : n < 256) : Calls Tryd.prog 32 #[.int .u64 n, .int .i64 16] w fun e w' => e = .returned (.string ⟨(hex8 n).toArray⟩) ∧ Below w.heap.size w w' := by
  have HB : Hid (Calls Tryd.prog 56 #[.slice none 0 0, .int .u64 n, .int .i64 16, .bool false, .bool false] w fun e w' => e = .returned (.tuple #[.slice none 0 0, .string ⟨(hex8 n).toArray⟩]) ∧ Below w.heap.size w w') := Lib.hid (by
    unfold hex8
    split
    · rename_i h; exact bits_small htz n h
    · rename_i h; exact bits_two htz n _ _ hn (by omega) rfl rfl)
  have HF : Hid (Calls Tryd.prog 40 #[.int .u64 n, .int .i64 16] w fun e w' => e = .returned (.string ⟨(hex8 n).toArray⟩) ∧ Below w.heap.size w w') := Lib.hid (by
    go_enter Tryd.func40, Tryd.ntmps40
    go_wp2_with (go_at_call 56; refine HB.out.mono ?_; rintro e w' ⟨rfl, hb⟩)
    go_ret
    exact ⟨rfl, hb⟩)
  go_enter Tryd.func32, Tryd.ntmps32
  go_wp2_with (go_at_call 40; refine HF.out.mono ?_; rintro e w' ⟨rfl, hb⟩)
  go_ret
  exact ⟨rfl, hb⟩
end Go.Proofs.YtlgefljbhbefgaaDoor
