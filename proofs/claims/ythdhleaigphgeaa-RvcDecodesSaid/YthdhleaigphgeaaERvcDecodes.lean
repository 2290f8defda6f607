/- RvcDecodes: what is excused can not be. -/
import Derived.Test.YthdhleaigphgeaaURvcDecodesF
set_option linter.unusedVariables false
set_option linter.unusedSimpArgs false
namespace Go.Proofs.Ythdhleaigphgeaa.Sx
open Go
set_option maxRecDepth 100000
theorem byte_and (n m : Nat) : n &&& m = (n / 256 &&& m / 256) * 256 + (n % 256 &&& m % 256) := by
  have h1 : (n &&& m) / 2 ^ 8 = n / 2 ^ 8 &&& m / 2 ^ 8 := Nat.and_div_two_pow
  have h2 : (n &&& m) % 2 ^ 8 = (n % 2 ^ 8) &&& (m % 2 ^ 8) := Nat.and_mod_two_pow
  have h3 := Nat.div_add_mod (n &&& m) (2 ^ 8)
  rw [h1, h2] at h3
  have e : (2 : Nat) ^ 8 = 256 := rfl
  rw [e] at h3
  omega
theorem m_f0 : ∀ h, h < 256 → h &&& 240 = h / 16 * 16 := by decide +kernel
theorem m_ec : ∀ h, h < 256 → h &&& 236 = h / 32 * 32 + h / 4 % 4 * 4 := by decide +kernel
theorem m_fc : ∀ h, h < 256 → h &&& 252 = h / 4 * 4 := by decide +kernel
theorem m_63 : ∀ h, h < 256 → h &&& 99 = h / 32 % 4 * 32 + h % 4 := by decide +kernel
theorem m_7f : ∀ h, h < 256 → h &&& 127 = h % 128 := by decide +kernel
theorem m_03 : ∀ h, h < 256 → h &&& 3 = h % 4 := by decide +kernel
theorem a_f003 (n : Nat) (h : n < 65536) : n &&& 61443 = n / 4096 * 4096 + n % 4 := by
  rw [byte_and, m_f0 _ (show n / 256 < 256 by omega), m_03 _ (Nat.mod_lt _ (by decide))]; omega
theorem a_f07f (n : Nat) (h : n < 65536) : n &&& 61567 = n / 4096 * 4096 + n % 128 := by
  rw [byte_and, m_f0 _ (show n / 256 < 256 by omega), m_7f _ (Nat.mod_lt _ (by decide))]; omega
theorem a_ec03 (n : Nat) (h : n < 65536) : n &&& 60419 = n / 8192 * 8192 + n / 1024 % 4 * 1024 + n % 4 := by
  rw [byte_and, m_ec _ (show n / 256 < 256 by omega), m_03 _ (Nat.mod_lt _ (by decide))]; omega
theorem a_fc63 (n : Nat) (h : n < 65536) : n &&& 64611 = n / 1024 * 1024 + n / 32 % 4 * 32 + n % 4 := by
  rw [byte_and, m_fc _ (show n / 256 < 256 by omega), m_63 _ (Nat.mod_lt _ (by decide))]; omega
theorem and16 (a : Nat) (b : Nat) : arF .and .u16 (a : Int) (b : Int) = ((a % 65536 &&& b % 65536 : Nat) : Int) := rfl
theorem and32 (a : Nat) (b : Nat) : arF .and .u32 (a : Int) (b : Int) = ((a % 4294967296 &&& b % 4294967296 : Nat) : Int) := rfl
theorem shr_nat' (k : IntKind) (a s p : Nat) (h : 2 ^ (min s (kindBits k)) = p) : arF .shr k (a : Int) (s : Int) = ((a / p : Nat) : Int) := by
  show (a : Int).fdiv (Int.ofNat (2 ^ (min (s : Int).toNat (kindBits k)))) = _
  rw [Int.toNat_natCast, h, Int.fdiv_eq_ediv_of_nonneg _ (by simp)]
  rfl
theorem c_f003 (a : Nat) (h : a < 65536) : arF .and .u16 (a : Int) 61443 = ((a / 4096 * 4096 + a % 4 : Nat) : Int) := by
  rw [show (61443 : Int) = ((61443 : Nat) : Int) from rfl, and16, Nat.mod_eq_of_lt h, ← a_f003 a h]
theorem c_f07f (a : Nat) (h : a < 65536) : arF .and .u16 (a : Int) 61567 = ((a / 4096 * 4096 + a % 128 : Nat) : Int) := by
  rw [show (61567 : Int) = ((61567 : Nat) : Int) from rfl, and16, Nat.mod_eq_of_lt h, ← a_f07f a h]
theorem c_ec03 (a : Nat) (h : a < 65536) : arF .and .u16 (a : Int) 60419 = ((a / 8192 * 8192 + a / 1024 % 4 * 1024 + a % 4 : Nat) : Int) := by
  rw [show (60419 : Int) = ((60419 : Nat) : Int) from rfl, and16, Nat.mod_eq_of_lt h, ← a_ec03 a h]
theorem c_fc63 (a : Nat) (h : a < 65536) : arF .and .u16 (a : Int) 64611 = ((a / 1024 * 1024 + a / 32 % 4 * 32 + a % 4 : Nat) : Int) := by
  rw [show (64611 : Int) = ((64611 : Nat) : Int) from rfl, and16, Nat.mod_eq_of_lt h, ← a_fc63 a h]
theorem c3 (a : Nat) (h : a < 65536) : arF .and .u16 (a : Int) 3 = ((a % 4 : Nat) : Int) := by
  rw [show (3 : Int) = ((3 : Nat) : Int) from rfl, and16, Nat.mod_eq_of_lt h]
  exact congrArg _ (Nat.and_two_pow_sub_one_eq_mod a 2)
theorem c31 (a : Nat) (h : a < 65536) : arF .and .u16 (a : Int) 31 = ((a % 32 : Nat) : Int) := by
  rw [show (31 : Int) = ((31 : Nat) : Int) from rfl, and16, Nat.mod_eq_of_lt h]
  exact congrArg _ (Nat.and_two_pow_sub_one_eq_mod a 5)
theorem d3 (a : Nat) (h : a < 65536) : arF .and .u32 (a : Int) 3 = ((a % 4 : Nat) : Int) := by
  rw [show (3 : Int) = ((3 : Nat) : Int) from rfl, and32, Nat.mod_eq_of_lt (show a < 4294967296 by omega)]
  exact congrArg _ (Nat.and_two_pow_sub_one_eq_mod a 2)
theorem d31 (a : Nat) (h : a < 65536) : arF .and .u32 (a : Int) 31 = ((a % 32 : Nat) : Int) := by
  rw [show (31 : Int) = ((31 : Nat) : Int) from rfl, and32, Nat.mod_eq_of_lt (show a < 4294967296 by omega)]
  exact congrArg _ (Nat.and_two_pow_sub_one_eq_mod a 5)
theorem d1 (a : Nat) (h : a < 65536) : arF .and .u32 (a : Int) 1 = ((a % 2 : Nat) : Int) := by
  rw [show (1 : Int) = ((1 : Nat) : Int) from rfl, and32, Nat.mod_eq_of_lt (show a < 4294967296 by omega)]
  exact congrArg _ (Nat.and_two_pow_sub_one_eq_mod a 1)
theorem s13 (a : Nat) : arF .shr .u16 (a : Int) 13 = ((a / 8192 : Nat) : Int) := shr_nat' .u16 a 13 8192 rfl
theorem s7 (a : Nat) : arF .shr .u16 (a : Int) 7 = ((a / 128 : Nat) : Int) := shr_nat' .u16 a 7 128 rfl
theorem t5 (a : Nat) : arF .shr .u32 (a : Int) 5 = ((a / 32 : Nat) : Int) := shr_nat' .u32 a 5 32 rfl
theorem t12 (a : Nat) : arF .shr .u32 (a : Int) 12 = ((a / 4096 : Nat) : Int) := shr_nat' .u32 a 12 4096 rfl
theorem t2 (a : Nat) : arF .shr .u32 (a : Int) 2 = ((a / 4 : Nat) : Int) := shr_nat' .u32 a 2 4 rfl
theorem t7 (a : Nat) : arF .shr .u32 (a : Int) 7 = ((a / 128 : Nat) : Int) := shr_nat' .u32 a 7 128 rfl
theorem w16_5 (a b : Nat) (ha : a < 2) (hb : b < 32) : arF .or .u32 (arF .shl .u32 (a : Int) 5) (b : Int) = ((a * 32 + b : Nat) : Int) := by
  have h1 : arF .shl .u32 (a : Int) 5 = ((a * 32 : Nat) : Int) := by
    show wrapF .u32 ((a : Int) * 32) = _
    rw [show ((a : Int) * 32) = ((a * 32 : Nat) : Int) by simp]
    show ofLow .u32 (lowOf .u32 (Int.ofNat (a * 32))) = _
    show Int.ofNat (a * 32 % 4294967296) = _
    rw [Nat.mod_eq_of_lt (by omega)]; rfl
  rw [h1]
  show ((Nat.lor (a * 32 % 4294967296) (b % 4294967296) : Nat) : Int) = _
  rw [Nat.mod_eq_of_lt (by omega), Nat.mod_eq_of_lt (by omega)]
  have := Nat.two_pow_add_eq_or_of_lt (show b < 2 ^ 5 from hb) a
  have e : a * 32 = 2 ^ 5 * a := by omega
  rw [e, this]; rfl
theorem rv_0 (i : Nat → Int) (j : Nat) (hh : Holds i [((.eq (.ar .and .u32 (.ar .or .u32 (.ar .or .u32 (.ar .or .u32 (.ar .or .u32 (.lit 59) (.ar .shl .u32 (.ar .add .u32 (.lit 8) (.ar .and .u32 (.ar .shr .u32 (.var j 0 65535) (.lit 7)) (.lit 7))) (.lit 7))) (.ar .shl .u32 (.ar .add .u32 (.lit 8) (.ar .and .u32 (.ar .shr .u32 (.var j 0 65535) (.lit 7)) (.lit 7))) (.lit 15))) (.ar .shl .u32 (.ar .add .u32 (.lit 8) (.ar .and .u32 (.ar .shr .u32 (.var j 0 65535) (.lit 2)) (.lit 7))) (.lit 20))) (.ar .shl .u32 (.ar .mul .u32 (.lit 32) (.ar .sub .u32 (.lit 1) (.ar .and .u32 (.ar .shr .u32 (.var j 0 65535) (.lit 5)) (.lit 3)))) (.lit 25))) (.lit 4261441663)) (.lit 59)), true), ((.lt (.lit 1) (.ar .and .u32 (.ar .shr .u32 (.var j 0 65535) (.lit 5)) (.lit 3))), false), ((.eq (.ar .and .u32 (.ar .shr .u32 (.ar .or .u32 (.ar .shl .u32 (.ar .and .u32 (.ar .shr .u32 (.var j 0 65535) (.lit 12)) (.lit 1)) (.lit 5)) (.ar .and .u32 (.ar .shr .u32 (.var j 0 65535) (.lit 2)) (.lit 31))) (.lit 5)) (.lit 1)) (.lit 1)), true), ((.eq (.ar .and .u16 (.var j 0 65535) (.lit 64611)) (.lit 39969)), false), ((.eq (.ar .and .u16 (.var j 0 65535) (.lit 64611)) (.lit 39937)), false), ((.eq (.ar .and .u16 (.var j 0 65535) (.lit 64611)) (.lit 35937)), false), ((.eq (.ar .and .u16 (.var j 0 65535) (.lit 64611)) (.lit 35905)), false), ((.eq (.ar .and .u16 (.var j 0 65535) (.lit 64611)) (.lit 35873)), false), ((.eq (.ar .and .u16 (.var j 0 65535) (.lit 64611)) (.lit 35841)), false), ((.eq (.ar .and .u16 (.var j 0 65535) (.lit 60419)) (.lit 34817)), false), ((.eq (.ar .and .u16 (.var j 0 65535) (.lit 60419)) (.lit 33793)), false), ((.eq (.ar .and .u16 (.var j 0 65535) (.lit 60419)) (.lit 32769)), false), ((.eq (.ar .shr .u16 (.var j 0 65535) (.lit 13)) (.lit 4)), true), ((.lt (.ar .shr .u16 (.var j 0 65535) (.lit 13)) (.lit 4)), false), ((.eq (.ar .and .u16 (.var j 0 65535) (.lit 3)) (.lit 1)), true), ((.eq (.ar .and .u16 (.var j 0 65535) (.lit 3)) (.lit 0)), false)]) : False := by
  have h1 := hh _ _ (.tail _ (.head _))
  have h2 := hh _ _ (.tail _ (.tail _ (.head _)))
  have h3 := hh _ _ (.tail _ (.tail _ (.tail _ (.head _))))
  have h4 := hh _ _ (.tail _ (.tail _ (.tail _ (.tail _ (.head _)))))
  have h5 := hh _ _ (.tail _ (.tail _ (.tail _ (.tail _ (.tail _ (.head _))))))
  have h6 := hh _ _ (.tail _ (.tail _ (.tail _ (.tail _ (.tail _ (.tail _ (.head _)))))))
  have h7 := hh _ _ (.tail _ (.tail _ (.tail _ (.tail _ (.tail _ (.tail _ (.tail _ (.head _))))))))
  have h8 := hh _ _ (.tail _ (.tail _ (.tail _ (.tail _ (.tail _ (.tail _ (.tail _ (.tail _ (.head _)))))))))
  have h9 := hh _ _ (.tail _ (.tail _ (.tail _ (.tail _ (.tail _ (.tail _ (.tail _ (.tail _ (.tail _ (.head _))))))))))
  have h10 := hh _ _ (.tail _ (.tail _ (.tail _ (.tail _ (.tail _ (.tail _ (.tail _ (.tail _ (.tail _ (.tail _ (.head _)))))))))))
  have h11 := hh _ _ (.tail _ (.tail _ (.tail _ (.tail _ (.tail _ (.tail _ (.tail _ (.tail _ (.tail _ (.tail _ (.tail _ (.head _))))))))))))
  have h12 := hh _ _ (.tail _ (.tail _ (.tail _ (.tail _ (.tail _ (.tail _ (.tail _ (.tail _ (.tail _ (.tail _ (.tail _ (.tail _ (.head _)))))))))))))
  have h13 := hh _ _ (.tail _ (.tail _ (.tail _ (.tail _ (.tail _ (.tail _ (.tail _ (.tail _ (.tail _ (.tail _ (.tail _ (.tail _ (.tail _ (.head _))))))))))))))
  have h14 := hh _ _ (.tail _ (.tail _ (.tail _ (.tail _ (.tail _ (.tail _ (.tail _ (.tail _ (.tail _ (.tail _ (.tail _ (.tail _ (.tail _ (.tail _ (.head _)))))))))))))))
  have h15 := hh _ _ (.tail _ (.tail _ (.tail _ (.tail _ (.tail _ (.tail _ (.tail _ (.tail _ (.tail _ (.tail _ (.tail _ (.tail _ (.tail _ (.tail _ (.tail _ (.head _))))))))))))))))
  clear hh
  simp only [N.den, true_iff, Bool.false_eq_true, false_iff, bI_ne, ieq_iff, ilt_iff] at h1 h2 h3 h4 h5 h6 h7 h8 h9 h10 h11 h12 h13 h14 h15
  obtain ⟨n, hn, hlt⟩ : ∃ n : Nat, max 0 (min 65535 (i j)) = (n : Int) ∧ n < 65536 := ⟨(max 0 (min 65535 (i j))).toNat, by omega, by omega⟩
  have r1 := c_f003 n hlt
  have r2 := c_f07f n hlt
  have r3 := c_ec03 n hlt
  have r4 := c_fc63 n hlt
  have r5 := c3 n hlt
  have r6 := c31 (n / 128) (by omega)
  have r7 := d3 (n / 32) (by omega)
  have r8 := d1 (n / 4096) (by omega)
  have r9 := d31 (n / 4) (by omega)
  have r10 := d31 (n / 128) (by omega)
  have r11 := w16_5 (n / 4096 % 2) (n / 4 % 32) (by omega) (by omega)
  have r12 := d1 ((n / 4096 % 2 * 32 + n / 4 % 32) / 32) (by omega)
  simp only [hn, s13, t5, t12, t2, r3, r4, r5, r7, r8, r9, r11, r12] at h1 h2 h3 h4 h5 h6 h7 h8 h9 h10 h11 h12 h13 h14 h15
  omega
theorem rv_1 (i : Nat → Int) (j : Nat) (hh : Holds i [((.eq (.ar .and .u32 (.ar .or .u32 (.ar .or .u32 (.ar .or .u32 (.ar .or .u32 (.lit 59) (.ar .shl .u32 (.ar .add .u32 (.lit 8) (.ar .and .u32 (.ar .shr .u32 (.var j 0 65535) (.lit 7)) (.lit 7))) (.lit 7))) (.ar .shl .u32 (.ar .add .u32 (.lit 8) (.ar .and .u32 (.ar .shr .u32 (.var j 0 65535) (.lit 7)) (.lit 7))) (.lit 15))) (.ar .shl .u32 (.ar .add .u32 (.lit 8) (.ar .and .u32 (.ar .shr .u32 (.var j 0 65535) (.lit 2)) (.lit 7))) (.lit 20))) (.ar .shl .u32 (.ar .mul .u32 (.lit 32) (.ar .sub .u32 (.lit 1) (.ar .and .u32 (.ar .shr .u32 (.var j 0 65535) (.lit 5)) (.lit 3)))) (.lit 25))) (.lit 4261441663)) (.lit 1073741883)), true), ((.eq (.ar .and .u32 (.ar .or .u32 (.ar .or .u32 (.ar .or .u32 (.ar .or .u32 (.lit 59) (.ar .shl .u32 (.ar .add .u32 (.lit 8) (.ar .and .u32 (.ar .shr .u32 (.var j 0 65535) (.lit 7)) (.lit 7))) (.lit 7))) (.ar .shl .u32 (.ar .add .u32 (.lit 8) (.ar .and .u32 (.ar .shr .u32 (.var j 0 65535) (.lit 7)) (.lit 7))) (.lit 15))) (.ar .shl .u32 (.ar .add .u32 (.lit 8) (.ar .and .u32 (.ar .shr .u32 (.var j 0 65535) (.lit 2)) (.lit 7))) (.lit 20))) (.ar .shl .u32 (.ar .mul .u32 (.lit 32) (.ar .sub .u32 (.lit 1) (.ar .and .u32 (.ar .shr .u32 (.var j 0 65535) (.lit 5)) (.lit 3)))) (.lit 25))) (.lit 4261441663)) (.lit 59)), false), ((.lt (.lit 1) (.ar .and .u32 (.ar .shr .u32 (.var j 0 65535) (.lit 5)) (.lit 3))), false), ((.eq (.ar .and .u32 (.ar .shr .u32 (.ar .or .u32 (.ar .shl .u32 (.ar .and .u32 (.ar .shr .u32 (.var j 0 65535) (.lit 12)) (.lit 1)) (.lit 5)) (.ar .and .u32 (.ar .shr .u32 (.var j 0 65535) (.lit 2)) (.lit 31))) (.lit 5)) (.lit 1)) (.lit 1)), true), ((.eq (.ar .and .u16 (.var j 0 65535) (.lit 64611)) (.lit 39969)), false), ((.eq (.ar .and .u16 (.var j 0 65535) (.lit 64611)) (.lit 39937)), false), ((.eq (.ar .and .u16 (.var j 0 65535) (.lit 64611)) (.lit 35937)), false), ((.eq (.ar .and .u16 (.var j 0 65535) (.lit 64611)) (.lit 35905)), false), ((.eq (.ar .and .u16 (.var j 0 65535) (.lit 64611)) (.lit 35873)), false), ((.eq (.ar .and .u16 (.var j 0 65535) (.lit 64611)) (.lit 35841)), false), ((.eq (.ar .and .u16 (.var j 0 65535) (.lit 60419)) (.lit 34817)), false), ((.eq (.ar .and .u16 (.var j 0 65535) (.lit 60419)) (.lit 33793)), false), ((.eq (.ar .and .u16 (.var j 0 65535) (.lit 60419)) (.lit 32769)), false), ((.eq (.ar .shr .u16 (.var j 0 65535) (.lit 13)) (.lit 4)), true), ((.lt (.ar .shr .u16 (.var j 0 65535) (.lit 13)) (.lit 4)), false), ((.eq (.ar .and .u16 (.var j 0 65535) (.lit 3)) (.lit 1)), true), ((.eq (.ar .and .u16 (.var j 0 65535) (.lit 3)) (.lit 0)), false)]) : False := by
  have h2 := hh _ _ (.tail _ (.tail _ (.head _)))
  have h3 := hh _ _ (.tail _ (.tail _ (.tail _ (.head _))))
  have h4 := hh _ _ (.tail _ (.tail _ (.tail _ (.tail _ (.head _)))))
  have h5 := hh _ _ (.tail _ (.tail _ (.tail _ (.tail _ (.tail _ (.head _))))))
  have h6 := hh _ _ (.tail _ (.tail _ (.tail _ (.tail _ (.tail _ (.tail _ (.head _)))))))
  have h7 := hh _ _ (.tail _ (.tail _ (.tail _ (.tail _ (.tail _ (.tail _ (.tail _ (.head _))))))))
  have h8 := hh _ _ (.tail _ (.tail _ (.tail _ (.tail _ (.tail _ (.tail _ (.tail _ (.tail _ (.head _)))))))))
  have h9 := hh _ _ (.tail _ (.tail _ (.tail _ (.tail _ (.tail _ (.tail _ (.tail _ (.tail _ (.tail _ (.head _))))))))))
  have h10 := hh _ _ (.tail _ (.tail _ (.tail _ (.tail _ (.tail _ (.tail _ (.tail _ (.tail _ (.tail _ (.tail _ (.head _)))))))))))
  have h11 := hh _ _ (.tail _ (.tail _ (.tail _ (.tail _ (.tail _ (.tail _ (.tail _ (.tail _ (.tail _ (.tail _ (.tail _ (.head _))))))))))))
  have h12 := hh _ _ (.tail _ (.tail _ (.tail _ (.tail _ (.tail _ (.tail _ (.tail _ (.tail _ (.tail _ (.tail _ (.tail _ (.tail _ (.head _)))))))))))))
  have h13 := hh _ _ (.tail _ (.tail _ (.tail _ (.tail _ (.tail _ (.tail _ (.tail _ (.tail _ (.tail _ (.tail _ (.tail _ (.tail _ (.tail _ (.head _))))))))))))))
  have h14 := hh _ _ (.tail _ (.tail _ (.tail _ (.tail _ (.tail _ (.tail _ (.tail _ (.tail _ (.tail _ (.tail _ (.tail _ (.tail _ (.tail _ (.tail _ (.head _)))))))))))))))
  have h15 := hh _ _ (.tail _ (.tail _ (.tail _ (.tail _ (.tail _ (.tail _ (.tail _ (.tail _ (.tail _ (.tail _ (.tail _ (.tail _ (.tail _ (.tail _ (.tail _ (.head _))))))))))))))))
  have h16 := hh _ _ (.tail _ (.tail _ (.tail _ (.tail _ (.tail _ (.tail _ (.tail _ (.tail _ (.tail _ (.tail _ (.tail _ (.tail _ (.tail _ (.tail _ (.tail _ (.tail _ (.head _)))))))))))))))))
  clear hh
  simp only [N.den, true_iff, Bool.false_eq_true, false_iff, bI_ne, ieq_iff, ilt_iff] at h2 h3 h4 h5 h6 h7 h8 h9 h10 h11 h12 h13 h14 h15 h16
  obtain ⟨n, hn, hlt⟩ : ∃ n : Nat, max 0 (min 65535 (i j)) = (n : Int) ∧ n < 65536 := ⟨(max 0 (min 65535 (i j))).toNat, by omega, by omega⟩
  have r1 := c_f003 n hlt
  have r2 := c_f07f n hlt
  have r3 := c_ec03 n hlt
  have r4 := c_fc63 n hlt
  have r5 := c3 n hlt
  have r6 := c31 (n / 128) (by omega)
  have r7 := d3 (n / 32) (by omega)
  have r8 := d1 (n / 4096) (by omega)
  have r9 := d31 (n / 4) (by omega)
  have r10 := d31 (n / 128) (by omega)
  have r11 := w16_5 (n / 4096 % 2) (n / 4 % 32) (by omega) (by omega)
  have r12 := d1 ((n / 4096 % 2 * 32 + n / 4 % 32) / 32) (by omega)
  simp only [hn, s13, t5, t12, t2, r3, r4, r5, r7, r8, r9, r11, r12] at h2 h3 h4 h5 h6 h7 h8 h9 h10 h11 h12 h13 h14 h15 h16
  omega
theorem rv_2 (i : Nat → Int) (j : Nat) (hh : Holds i [((.eq (.ar .and .u32 (.ar .or .u32 (.ar .or .u32 (.ar .or .u32 (.ar .or .u32 (.lit 59) (.ar .shl .u32 (.ar .add .u32 (.lit 8) (.ar .and .u32 (.ar .shr .u32 (.var j 0 65535) (.lit 7)) (.lit 7))) (.lit 7))) (.ar .shl .u32 (.ar .add .u32 (.lit 8) (.ar .and .u32 (.ar .shr .u32 (.var j 0 65535) (.lit 7)) (.lit 7))) (.lit 15))) (.ar .shl .u32 (.ar .add .u32 (.lit 8) (.ar .and .u32 (.ar .shr .u32 (.var j 0 65535) (.lit 2)) (.lit 7))) (.lit 20))) (.ar .shl .u32 (.ar .mul .u32 (.lit 32) (.ar .sub .u32 (.lit 1) (.ar .and .u32 (.ar .shr .u32 (.var j 0 65535) (.lit 5)) (.lit 3)))) (.lit 25))) (.lit 4261441663)) (.lit 33554491)), true), ((.eq (.ar .and .u32 (.ar .or .u32 (.ar .or .u32 (.ar .or .u32 (.ar .or .u32 (.lit 59) (.ar .shl .u32 (.ar .add .u32 (.lit 8) (.ar .and .u32 (.ar .shr .u32 (.var j 0 65535) (.lit 7)) (.lit 7))) (.lit 7))) (.ar .shl .u32 (.ar .add .u32 (.lit 8) (.ar .and .u32 (.ar .shr .u32 (.var j 0 65535) (.lit 7)) (.lit 7))) (.lit 15))) (.ar .shl .u32 (.ar .add .u32 (.lit 8) (.ar .and .u32 (.ar .shr .u32 (.var j 0 65535) (.lit 2)) (.lit 7))) (.lit 20))) (.ar .shl .u32 (.ar .mul .u32 (.lit 32) (.ar .sub .u32 (.lit 1) (.ar .and .u32 (.ar .shr .u32 (.var j 0 65535) (.lit 5)) (.lit 3)))) (.lit 25))) (.lit 4261441663)) (.lit 1073741883)), false), ((.eq (.ar .and .u32 (.ar .or .u32 (.ar .or .u32 (.ar .or .u32 (.ar .or .u32 (.lit 59) (.ar .shl .u32 (.ar .add .u32 (.lit 8) (.ar .and .u32 (.ar .shr .u32 (.var j 0 65535) (.lit 7)) (.lit 7))) (.lit 7))) (.ar .shl .u32 (.ar .add .u32 (.lit 8) (.ar .and .u32 (.ar .shr .u32 (.var j 0 65535) (.lit 7)) (.lit 7))) (.lit 15))) (.ar .shl .u32 (.ar .add .u32 (.lit 8) (.ar .and .u32 (.ar .shr .u32 (.var j 0 65535) (.lit 2)) (.lit 7))) (.lit 20))) (.ar .shl .u32 (.ar .mul .u32 (.lit 32) (.ar .sub .u32 (.lit 1) (.ar .and .u32 (.ar .shr .u32 (.var j 0 65535) (.lit 5)) (.lit 3)))) (.lit 25))) (.lit 4261441663)) (.lit 59)), false), ((.lt (.lit 1) (.ar .and .u32 (.ar .shr .u32 (.var j 0 65535) (.lit 5)) (.lit 3))), false), ((.eq (.ar .and .u32 (.ar .shr .u32 (.ar .or .u32 (.ar .shl .u32 (.ar .and .u32 (.ar .shr .u32 (.var j 0 65535) (.lit 12)) (.lit 1)) (.lit 5)) (.ar .and .u32 (.ar .shr .u32 (.var j 0 65535) (.lit 2)) (.lit 31))) (.lit 5)) (.lit 1)) (.lit 1)), true), ((.eq (.ar .and .u16 (.var j 0 65535) (.lit 64611)) (.lit 39969)), false), ((.eq (.ar .and .u16 (.var j 0 65535) (.lit 64611)) (.lit 39937)), false), ((.eq (.ar .and .u16 (.var j 0 65535) (.lit 64611)) (.lit 35937)), false), ((.eq (.ar .and .u16 (.var j 0 65535) (.lit 64611)) (.lit 35905)), false), ((.eq (.ar .and .u16 (.var j 0 65535) (.lit 64611)) (.lit 35873)), false), ((.eq (.ar .and .u16 (.var j 0 65535) (.lit 64611)) (.lit 35841)), false), ((.eq (.ar .and .u16 (.var j 0 65535) (.lit 60419)) (.lit 34817)), false), ((.eq (.ar .and .u16 (.var j 0 65535) (.lit 60419)) (.lit 33793)), false), ((.eq (.ar .and .u16 (.var j 0 65535) (.lit 60419)) (.lit 32769)), false), ((.eq (.ar .shr .u16 (.var j 0 65535) (.lit 13)) (.lit 4)), true), ((.lt (.ar .shr .u16 (.var j 0 65535) (.lit 13)) (.lit 4)), false), ((.eq (.ar .and .u16 (.var j 0 65535) (.lit 3)) (.lit 1)), true), ((.eq (.ar .and .u16 (.var j 0 65535) (.lit 3)) (.lit 0)), false)]) : False := by
  have h3 := hh _ _ (.tail _ (.tail _ (.tail _ (.head _))))
  have h4 := hh _ _ (.tail _ (.tail _ (.tail _ (.tail _ (.head _)))))
  have h5 := hh _ _ (.tail _ (.tail _ (.tail _ (.tail _ (.tail _ (.head _))))))
  have h6 := hh _ _ (.tail _ (.tail _ (.tail _ (.tail _ (.tail _ (.tail _ (.head _)))))))
  have h7 := hh _ _ (.tail _ (.tail _ (.tail _ (.tail _ (.tail _ (.tail _ (.tail _ (.head _))))))))
  have h8 := hh _ _ (.tail _ (.tail _ (.tail _ (.tail _ (.tail _ (.tail _ (.tail _ (.tail _ (.head _)))))))))
  have h9 := hh _ _ (.tail _ (.tail _ (.tail _ (.tail _ (.tail _ (.tail _ (.tail _ (.tail _ (.tail _ (.head _))))))))))
  have h10 := hh _ _ (.tail _ (.tail _ (.tail _ (.tail _ (.tail _ (.tail _ (.tail _ (.tail _ (.tail _ (.tail _ (.head _)))))))))))
  have h11 := hh _ _ (.tail _ (.tail _ (.tail _ (.tail _ (.tail _ (.tail _ (.tail _ (.tail _ (.tail _ (.tail _ (.tail _ (.head _))))))))))))
  have h12 := hh _ _ (.tail _ (.tail _ (.tail _ (.tail _ (.tail _ (.tail _ (.tail _ (.tail _ (.tail _ (.tail _ (.tail _ (.tail _ (.head _)))))))))))))
  have h13 := hh _ _ (.tail _ (.tail _ (.tail _ (.tail _ (.tail _ (.tail _ (.tail _ (.tail _ (.tail _ (.tail _ (.tail _ (.tail _ (.tail _ (.head _))))))))))))))
  have h14 := hh _ _ (.tail _ (.tail _ (.tail _ (.tail _ (.tail _ (.tail _ (.tail _ (.tail _ (.tail _ (.tail _ (.tail _ (.tail _ (.tail _ (.tail _ (.head _)))))))))))))))
  have h15 := hh _ _ (.tail _ (.tail _ (.tail _ (.tail _ (.tail _ (.tail _ (.tail _ (.tail _ (.tail _ (.tail _ (.tail _ (.tail _ (.tail _ (.tail _ (.tail _ (.head _))))))))))))))))
  have h16 := hh _ _ (.tail _ (.tail _ (.tail _ (.tail _ (.tail _ (.tail _ (.tail _ (.tail _ (.tail _ (.tail _ (.tail _ (.tail _ (.tail _ (.tail _ (.tail _ (.tail _ (.head _)))))))))))))))))
  have h17 := hh _ _ (.tail _ (.tail _ (.tail _ (.tail _ (.tail _ (.tail _ (.tail _ (.tail _ (.tail _ (.tail _ (.tail _ (.tail _ (.tail _ (.tail _ (.tail _ (.tail _ (.tail _ (.head _))))))))))))))))))
  clear hh
  simp only [N.den, true_iff, Bool.false_eq_true, false_iff, bI_ne, ieq_iff, ilt_iff] at h3 h4 h5 h6 h7 h8 h9 h10 h11 h12 h13 h14 h15 h16 h17
  obtain ⟨n, hn, hlt⟩ : ∃ n : Nat, max 0 (min 65535 (i j)) = (n : Int) ∧ n < 65536 := ⟨(max 0 (min 65535 (i j))).toNat, by omega, by omega⟩
  have r1 := c_f003 n hlt
  have r2 := c_f07f n hlt
  have r3 := c_ec03 n hlt
  have r4 := c_fc63 n hlt
  have r5 := c3 n hlt
  have r6 := c31 (n / 128) (by omega)
  have r7 := d3 (n / 32) (by omega)
  have r8 := d1 (n / 4096) (by omega)
  have r9 := d31 (n / 4) (by omega)
  have r10 := d31 (n / 128) (by omega)
  have r11 := w16_5 (n / 4096 % 2) (n / 4 % 32) (by omega) (by omega)
  have r12 := d1 ((n / 4096 % 2 * 32 + n / 4 % 32) / 32) (by omega)
  simp only [hn, s13, t5, t12, t2, r3, r4, r5, r7, r8, r9, r11, r12] at h3 h4 h5 h6 h7 h8 h9 h10 h11 h12 h13 h14 h15 h16 h17
  omega
theorem rv_3 (i : Nat → Int) (j : Nat) (hh : Holds i [((.eq (.ar .and .u32 (.ar .or .u32 (.ar .or .u32 (.ar .or .u32 (.ar .or .u32 (.lit 59) (.ar .shl .u32 (.ar .add .u32 (.lit 8) (.ar .and .u32 (.ar .shr .u32 (.var j 0 65535) (.lit 7)) (.lit 7))) (.lit 7))) (.ar .shl .u32 (.ar .add .u32 (.lit 8) (.ar .and .u32 (.ar .shr .u32 (.var j 0 65535) (.lit 7)) (.lit 7))) (.lit 15))) (.ar .shl .u32 (.ar .add .u32 (.lit 8) (.ar .and .u32 (.ar .shr .u32 (.var j 0 65535) (.lit 2)) (.lit 7))) (.lit 20))) (.ar .shl .u32 (.ar .mul .u32 (.lit 32) (.ar .sub .u32 (.lit 1) (.ar .and .u32 (.ar .shr .u32 (.var j 0 65535) (.lit 5)) (.lit 3)))) (.lit 25))) (.lit 4261441663)) (.lit 33554491)), false), ((.eq (.ar .and .u32 (.ar .or .u32 (.ar .or .u32 (.ar .or .u32 (.ar .or .u32 (.lit 59) (.ar .shl .u32 (.ar .add .u32 (.lit 8) (.ar .and .u32 (.ar .shr .u32 (.var j 0 65535) (.lit 7)) (.lit 7))) (.lit 7))) (.ar .shl .u32 (.ar .add .u32 (.lit 8) (.ar .and .u32 (.ar .shr .u32 (.var j 0 65535) (.lit 7)) (.lit 7))) (.lit 15))) (.ar .shl .u32 (.ar .add .u32 (.lit 8) (.ar .and .u32 (.ar .shr .u32 (.var j 0 65535) (.lit 2)) (.lit 7))) (.lit 20))) (.ar .shl .u32 (.ar .mul .u32 (.lit 32) (.ar .sub .u32 (.lit 1) (.ar .and .u32 (.ar .shr .u32 (.var j 0 65535) (.lit 5)) (.lit 3)))) (.lit 25))) (.lit 4261441663)) (.lit 1073741883)), false), ((.eq (.ar .and .u32 (.ar .or .u32 (.ar .or .u32 (.ar .or .u32 (.ar .or .u32 (.lit 59) (.ar .shl .u32 (.ar .add .u32 (.lit 8) (.ar .and .u32 (.ar .shr .u32 (.var j 0 65535) (.lit 7)) (.lit 7))) (.lit 7))) (.ar .shl .u32 (.ar .add .u32 (.lit 8) (.ar .and .u32 (.ar .shr .u32 (.var j 0 65535) (.lit 7)) (.lit 7))) (.lit 15))) (.ar .shl .u32 (.ar .add .u32 (.lit 8) (.ar .and .u32 (.ar .shr .u32 (.var j 0 65535) (.lit 2)) (.lit 7))) (.lit 20))) (.ar .shl .u32 (.ar .mul .u32 (.lit 32) (.ar .sub .u32 (.lit 1) (.ar .and .u32 (.ar .shr .u32 (.var j 0 65535) (.lit 5)) (.lit 3)))) (.lit 25))) (.lit 4261441663)) (.lit 59)), false), ((.lt (.lit 1) (.ar .and .u32 (.ar .shr .u32 (.var j 0 65535) (.lit 5)) (.lit 3))), false), ((.eq (.ar .and .u32 (.ar .shr .u32 (.ar .or .u32 (.ar .shl .u32 (.ar .and .u32 (.ar .shr .u32 (.var j 0 65535) (.lit 12)) (.lit 1)) (.lit 5)) (.ar .and .u32 (.ar .shr .u32 (.var j 0 65535) (.lit 2)) (.lit 31))) (.lit 5)) (.lit 1)) (.lit 1)), true), ((.eq (.ar .and .u16 (.var j 0 65535) (.lit 64611)) (.lit 39969)), false), ((.eq (.ar .and .u16 (.var j 0 65535) (.lit 64611)) (.lit 39937)), false), ((.eq (.ar .and .u16 (.var j 0 65535) (.lit 64611)) (.lit 35937)), false), ((.eq (.ar .and .u16 (.var j 0 65535) (.lit 64611)) (.lit 35905)), false), ((.eq (.ar .and .u16 (.var j 0 65535) (.lit 64611)) (.lit 35873)), false), ((.eq (.ar .and .u16 (.var j 0 65535) (.lit 64611)) (.lit 35841)), false), ((.eq (.ar .and .u16 (.var j 0 65535) (.lit 60419)) (.lit 34817)), false), ((.eq (.ar .and .u16 (.var j 0 65535) (.lit 60419)) (.lit 33793)), false), ((.eq (.ar .and .u16 (.var j 0 65535) (.lit 60419)) (.lit 32769)), false), ((.eq (.ar .shr .u16 (.var j 0 65535) (.lit 13)) (.lit 4)), true), ((.lt (.ar .shr .u16 (.var j 0 65535) (.lit 13)) (.lit 4)), false), ((.eq (.ar .and .u16 (.var j 0 65535) (.lit 3)) (.lit 1)), true), ((.eq (.ar .and .u16 (.var j 0 65535) (.lit 3)) (.lit 0)), false)]) : False := by
  have h3 := hh _ _ (.tail _ (.tail _ (.tail _ (.head _))))
  have h4 := hh _ _ (.tail _ (.tail _ (.tail _ (.tail _ (.head _)))))
  have h5 := hh _ _ (.tail _ (.tail _ (.tail _ (.tail _ (.tail _ (.head _))))))
  have h6 := hh _ _ (.tail _ (.tail _ (.tail _ (.tail _ (.tail _ (.tail _ (.head _)))))))
  have h7 := hh _ _ (.tail _ (.tail _ (.tail _ (.tail _ (.tail _ (.tail _ (.tail _ (.head _))))))))
  have h8 := hh _ _ (.tail _ (.tail _ (.tail _ (.tail _ (.tail _ (.tail _ (.tail _ (.tail _ (.head _)))))))))
  have h9 := hh _ _ (.tail _ (.tail _ (.tail _ (.tail _ (.tail _ (.tail _ (.tail _ (.tail _ (.tail _ (.head _))))))))))
  have h10 := hh _ _ (.tail _ (.tail _ (.tail _ (.tail _ (.tail _ (.tail _ (.tail _ (.tail _ (.tail _ (.tail _ (.head _)))))))))))
  have h11 := hh _ _ (.tail _ (.tail _ (.tail _ (.tail _ (.tail _ (.tail _ (.tail _ (.tail _ (.tail _ (.tail _ (.tail _ (.head _))))))))))))
  have h12 := hh _ _ (.tail _ (.tail _ (.tail _ (.tail _ (.tail _ (.tail _ (.tail _ (.tail _ (.tail _ (.tail _ (.tail _ (.tail _ (.head _)))))))))))))
  have h13 := hh _ _ (.tail _ (.tail _ (.tail _ (.tail _ (.tail _ (.tail _ (.tail _ (.tail _ (.tail _ (.tail _ (.tail _ (.tail _ (.tail _ (.head _))))))))))))))
  have h14 := hh _ _ (.tail _ (.tail _ (.tail _ (.tail _ (.tail _ (.tail _ (.tail _ (.tail _ (.tail _ (.tail _ (.tail _ (.tail _ (.tail _ (.tail _ (.head _)))))))))))))))
  have h15 := hh _ _ (.tail _ (.tail _ (.tail _ (.tail _ (.tail _ (.tail _ (.tail _ (.tail _ (.tail _ (.tail _ (.tail _ (.tail _ (.tail _ (.tail _ (.tail _ (.head _))))))))))))))))
  have h16 := hh _ _ (.tail _ (.tail _ (.tail _ (.tail _ (.tail _ (.tail _ (.tail _ (.tail _ (.tail _ (.tail _ (.tail _ (.tail _ (.tail _ (.tail _ (.tail _ (.tail _ (.head _)))))))))))))))))
  have h17 := hh _ _ (.tail _ (.tail _ (.tail _ (.tail _ (.tail _ (.tail _ (.tail _ (.tail _ (.tail _ (.tail _ (.tail _ (.tail _ (.tail _ (.tail _ (.tail _ (.tail _ (.tail _ (.head _))))))))))))))))))
  clear hh
  simp only [N.den, true_iff, Bool.false_eq_true, false_iff, bI_ne, ieq_iff, ilt_iff] at h3 h4 h5 h6 h7 h8 h9 h10 h11 h12 h13 h14 h15 h16 h17
  obtain ⟨n, hn, hlt⟩ : ∃ n : Nat, max 0 (min 65535 (i j)) = (n : Int) ∧ n < 65536 := ⟨(max 0 (min 65535 (i j))).toNat, by omega, by omega⟩
  have r1 := c_f003 n hlt
  have r2 := c_f07f n hlt
  have r3 := c_ec03 n hlt
  have r4 := c_fc63 n hlt
  have r5 := c3 n hlt
  have r6 := c31 (n / 128) (by omega)
  have r7 := d3 (n / 32) (by omega)
  have r8 := d1 (n / 4096) (by omega)
  have r9 := d31 (n / 4) (by omega)
  have r10 := d31 (n / 128) (by omega)
  have r11 := w16_5 (n / 4096 % 2) (n / 4 % 32) (by omega) (by omega)
  have r12 := d1 ((n / 4096 % 2 * 32 + n / 4 % 32) / 32) (by omega)
  simp only [hn, s13, t5, t12, t2, r3, r4, r5, r7, r8, r9, r11, r12] at h3 h4 h5 h6 h7 h8 h9 h10 h11 h12 h13 h14 h15 h16 h17
  omega
theorem rv_4 (i : Nat → Int) (j : Nat) (hh : Holds i [((.eq (.ar .and .u32 (.ar .shr .u32 (.var j 0 65535) (.lit 5)) (.lit 3)) (.lit 0)), true), ((.eq (.ar .and .u32 (.ar .shr .u32 (.ar .or .u32 (.ar .shl .u32 (.ar .and .u32 (.ar .shr .u32 (.var j 0 65535) (.lit 12)) (.lit 1)) (.lit 5)) (.ar .and .u32 (.ar .shr .u32 (.var j 0 65535) (.lit 2)) (.lit 31))) (.lit 5)) (.lit 1)) (.lit 1)), false), ((.eq (.ar .and .u16 (.var j 0 65535) (.lit 64611)) (.lit 39969)), false), ((.eq (.ar .and .u16 (.var j 0 65535) (.lit 64611)) (.lit 39937)), false), ((.eq (.ar .and .u16 (.var j 0 65535) (.lit 64611)) (.lit 35937)), false), ((.eq (.ar .and .u16 (.var j 0 65535) (.lit 64611)) (.lit 35905)), false), ((.eq (.ar .and .u16 (.var j 0 65535) (.lit 64611)) (.lit 35873)), false), ((.eq (.ar .and .u16 (.var j 0 65535) (.lit 64611)) (.lit 35841)), false), ((.eq (.ar .and .u16 (.var j 0 65535) (.lit 60419)) (.lit 34817)), false), ((.eq (.ar .and .u16 (.var j 0 65535) (.lit 60419)) (.lit 33793)), false), ((.eq (.ar .and .u16 (.var j 0 65535) (.lit 60419)) (.lit 32769)), false), ((.eq (.ar .shr .u16 (.var j 0 65535) (.lit 13)) (.lit 4)), true), ((.lt (.ar .shr .u16 (.var j 0 65535) (.lit 13)) (.lit 4)), false), ((.eq (.ar .and .u16 (.var j 0 65535) (.lit 3)) (.lit 1)), true), ((.eq (.ar .and .u16 (.var j 0 65535) (.lit 3)) (.lit 0)), false)]) : False := by
  have h0 := hh _ _ (.head _)
  have h1 := hh _ _ (.tail _ (.head _))
  have h2 := hh _ _ (.tail _ (.tail _ (.head _)))
  have h3 := hh _ _ (.tail _ (.tail _ (.tail _ (.head _))))
  have h4 := hh _ _ (.tail _ (.tail _ (.tail _ (.tail _ (.head _)))))
  have h5 := hh _ _ (.tail _ (.tail _ (.tail _ (.tail _ (.tail _ (.head _))))))
  have h6 := hh _ _ (.tail _ (.tail _ (.tail _ (.tail _ (.tail _ (.tail _ (.head _)))))))
  have h7 := hh _ _ (.tail _ (.tail _ (.tail _ (.tail _ (.tail _ (.tail _ (.tail _ (.head _))))))))
  have h8 := hh _ _ (.tail _ (.tail _ (.tail _ (.tail _ (.tail _ (.tail _ (.tail _ (.tail _ (.head _)))))))))
  have h9 := hh _ _ (.tail _ (.tail _ (.tail _ (.tail _ (.tail _ (.tail _ (.tail _ (.tail _ (.tail _ (.head _))))))))))
  have h10 := hh _ _ (.tail _ (.tail _ (.tail _ (.tail _ (.tail _ (.tail _ (.tail _ (.tail _ (.tail _ (.tail _ (.head _)))))))))))
  have h11 := hh _ _ (.tail _ (.tail _ (.tail _ (.tail _ (.tail _ (.tail _ (.tail _ (.tail _ (.tail _ (.tail _ (.tail _ (.head _))))))))))))
  have h12 := hh _ _ (.tail _ (.tail _ (.tail _ (.tail _ (.tail _ (.tail _ (.tail _ (.tail _ (.tail _ (.tail _ (.tail _ (.tail _ (.head _)))))))))))))
  have h13 := hh _ _ (.tail _ (.tail _ (.tail _ (.tail _ (.tail _ (.tail _ (.tail _ (.tail _ (.tail _ (.tail _ (.tail _ (.tail _ (.tail _ (.head _))))))))))))))
  have h14 := hh _ _ (.tail _ (.tail _ (.tail _ (.tail _ (.tail _ (.tail _ (.tail _ (.tail _ (.tail _ (.tail _ (.tail _ (.tail _ (.tail _ (.tail _ (.head _)))))))))))))))
  clear hh
  simp only [N.den, true_iff, Bool.false_eq_true, false_iff, bI_ne, ieq_iff, ilt_iff] at h0 h1 h2 h3 h4 h5 h6 h7 h8 h9 h10 h11 h12 h13 h14
  obtain ⟨n, hn, hlt⟩ : ∃ n : Nat, max 0 (min 65535 (i j)) = (n : Int) ∧ n < 65536 := ⟨(max 0 (min 65535 (i j))).toNat, by omega, by omega⟩
  have r1 := c_f003 n hlt
  have r2 := c_f07f n hlt
  have r3 := c_ec03 n hlt
  have r4 := c_fc63 n hlt
  have r5 := c3 n hlt
  have r6 := c31 (n / 128) (by omega)
  have r7 := d3 (n / 32) (by omega)
  have r8 := d1 (n / 4096) (by omega)
  have r9 := d31 (n / 4) (by omega)
  have r10 := d31 (n / 128) (by omega)
  have r11 := w16_5 (n / 4096 % 2) (n / 4 % 32) (by omega) (by omega)
  have r12 := d1 ((n / 4096 % 2 * 32 + n / 4 % 32) / 32) (by omega)
  simp only [hn, s13, t5, t12, t2, r3, r4, r5, r7, r8, r9, r11, r12] at h0 h1 h2 h3 h4 h5 h6 h7 h8 h9 h10 h11 h12 h13 h14
  omega
theorem rv_5 (i : Nat → Int) (j : Nat) (hh : Holds i [((.eq (.ar .and .u32 (.ar .shr .u32 (.var j 0 65535) (.lit 5)) (.lit 3)) (.lit 1)), true), ((.eq (.ar .and .u32 (.ar .shr .u32 (.var j 0 65535) (.lit 5)) (.lit 3)) (.lit 0)), false), ((.eq (.ar .and .u32 (.ar .shr .u32 (.ar .or .u32 (.ar .shl .u32 (.ar .and .u32 (.ar .shr .u32 (.var j 0 65535) (.lit 12)) (.lit 1)) (.lit 5)) (.ar .and .u32 (.ar .shr .u32 (.var j 0 65535) (.lit 2)) (.lit 31))) (.lit 5)) (.lit 1)) (.lit 1)), false), ((.eq (.ar .and .u16 (.var j 0 65535) (.lit 64611)) (.lit 39969)), false), ((.eq (.ar .and .u16 (.var j 0 65535) (.lit 64611)) (.lit 39937)), false), ((.eq (.ar .and .u16 (.var j 0 65535) (.lit 64611)) (.lit 35937)), false), ((.eq (.ar .and .u16 (.var j 0 65535) (.lit 64611)) (.lit 35905)), false), ((.eq (.ar .and .u16 (.var j 0 65535) (.lit 64611)) (.lit 35873)), false), ((.eq (.ar .and .u16 (.var j 0 65535) (.lit 64611)) (.lit 35841)), false), ((.eq (.ar .and .u16 (.var j 0 65535) (.lit 60419)) (.lit 34817)), false), ((.eq (.ar .and .u16 (.var j 0 65535) (.lit 60419)) (.lit 33793)), false), ((.eq (.ar .and .u16 (.var j 0 65535) (.lit 60419)) (.lit 32769)), false), ((.eq (.ar .shr .u16 (.var j 0 65535) (.lit 13)) (.lit 4)), true), ((.lt (.ar .shr .u16 (.var j 0 65535) (.lit 13)) (.lit 4)), false), ((.eq (.ar .and .u16 (.var j 0 65535) (.lit 3)) (.lit 1)), true), ((.eq (.ar .and .u16 (.var j 0 65535) (.lit 3)) (.lit 0)), false)]) : False := by
  have h0 := hh _ _ (.head _)
  have h1 := hh _ _ (.tail _ (.head _))
  have h2 := hh _ _ (.tail _ (.tail _ (.head _)))
  have h3 := hh _ _ (.tail _ (.tail _ (.tail _ (.head _))))
  have h4 := hh _ _ (.tail _ (.tail _ (.tail _ (.tail _ (.head _)))))
  have h5 := hh _ _ (.tail _ (.tail _ (.tail _ (.tail _ (.tail _ (.head _))))))
  have h6 := hh _ _ (.tail _ (.tail _ (.tail _ (.tail _ (.tail _ (.tail _ (.head _)))))))
  have h7 := hh _ _ (.tail _ (.tail _ (.tail _ (.tail _ (.tail _ (.tail _ (.tail _ (.head _))))))))
  have h8 := hh _ _ (.tail _ (.tail _ (.tail _ (.tail _ (.tail _ (.tail _ (.tail _ (.tail _ (.head _)))))))))
  have h9 := hh _ _ (.tail _ (.tail _ (.tail _ (.tail _ (.tail _ (.tail _ (.tail _ (.tail _ (.tail _ (.head _))))))))))
  have h10 := hh _ _ (.tail _ (.tail _ (.tail _ (.tail _ (.tail _ (.tail _ (.tail _ (.tail _ (.tail _ (.tail _ (.head _)))))))))))
  have h11 := hh _ _ (.tail _ (.tail _ (.tail _ (.tail _ (.tail _ (.tail _ (.tail _ (.tail _ (.tail _ (.tail _ (.tail _ (.head _))))))))))))
  have h12 := hh _ _ (.tail _ (.tail _ (.tail _ (.tail _ (.tail _ (.tail _ (.tail _ (.tail _ (.tail _ (.tail _ (.tail _ (.tail _ (.head _)))))))))))))
  have h13 := hh _ _ (.tail _ (.tail _ (.tail _ (.tail _ (.tail _ (.tail _ (.tail _ (.tail _ (.tail _ (.tail _ (.tail _ (.tail _ (.tail _ (.head _))))))))))))))
  have h14 := hh _ _ (.tail _ (.tail _ (.tail _ (.tail _ (.tail _ (.tail _ (.tail _ (.tail _ (.tail _ (.tail _ (.tail _ (.tail _ (.tail _ (.tail _ (.head _)))))))))))))))
  have h15 := hh _ _ (.tail _ (.tail _ (.tail _ (.tail _ (.tail _ (.tail _ (.tail _ (.tail _ (.tail _ (.tail _ (.tail _ (.tail _ (.tail _ (.tail _ (.tail _ (.head _))))))))))))))))
  clear hh
  simp only [N.den, true_iff, Bool.false_eq_true, false_iff, bI_ne, ieq_iff, ilt_iff] at h0 h1 h2 h3 h4 h5 h6 h7 h8 h9 h10 h11 h12 h13 h14 h15
  obtain ⟨n, hn, hlt⟩ : ∃ n : Nat, max 0 (min 65535 (i j)) = (n : Int) ∧ n < 65536 := ⟨(max 0 (min 65535 (i j))).toNat, by omega, by omega⟩
  have r1 := c_f003 n hlt
  have r2 := c_f07f n hlt
  have r3 := c_ec03 n hlt
  have r4 := c_fc63 n hlt
  have r5 := c3 n hlt
  have r6 := c31 (n / 128) (by omega)
  have r7 := d3 (n / 32) (by omega)
  have r8 := d1 (n / 4096) (by omega)
  have r9 := d31 (n / 4) (by omega)
  have r10 := d31 (n / 128) (by omega)
  have r11 := w16_5 (n / 4096 % 2) (n / 4 % 32) (by omega) (by omega)
  have r12 := d1 ((n / 4096 % 2 * 32 + n / 4 % 32) / 32) (by omega)
  simp only [hn, s13, t5, t12, t2, r3, r4, r5, r7, r8, r9, r11, r12] at h0 h1 h2 h3 h4 h5 h6 h7 h8 h9 h10 h11 h12 h13 h14 h15
  omega
theorem rv_6 (i : Nat → Int) (j : Nat) (hh : Holds i [((.eq (.ar .and .u32 (.ar .shr .u32 (.var j 0 65535) (.lit 5)) (.lit 3)) (.lit 2)), true), ((.eq (.ar .and .u32 (.ar .shr .u32 (.var j 0 65535) (.lit 5)) (.lit 3)) (.lit 1)), false), ((.eq (.ar .and .u32 (.ar .shr .u32 (.var j 0 65535) (.lit 5)) (.lit 3)) (.lit 0)), false), ((.eq (.ar .and .u32 (.ar .shr .u32 (.ar .or .u32 (.ar .shl .u32 (.ar .and .u32 (.ar .shr .u32 (.var j 0 65535) (.lit 12)) (.lit 1)) (.lit 5)) (.ar .and .u32 (.ar .shr .u32 (.var j 0 65535) (.lit 2)) (.lit 31))) (.lit 5)) (.lit 1)) (.lit 1)), false), ((.eq (.ar .and .u16 (.var j 0 65535) (.lit 64611)) (.lit 39969)), false), ((.eq (.ar .and .u16 (.var j 0 65535) (.lit 64611)) (.lit 39937)), false), ((.eq (.ar .and .u16 (.var j 0 65535) (.lit 64611)) (.lit 35937)), false), ((.eq (.ar .and .u16 (.var j 0 65535) (.lit 64611)) (.lit 35905)), false), ((.eq (.ar .and .u16 (.var j 0 65535) (.lit 64611)) (.lit 35873)), false), ((.eq (.ar .and .u16 (.var j 0 65535) (.lit 64611)) (.lit 35841)), false), ((.eq (.ar .and .u16 (.var j 0 65535) (.lit 60419)) (.lit 34817)), false), ((.eq (.ar .and .u16 (.var j 0 65535) (.lit 60419)) (.lit 33793)), false), ((.eq (.ar .and .u16 (.var j 0 65535) (.lit 60419)) (.lit 32769)), false), ((.eq (.ar .shr .u16 (.var j 0 65535) (.lit 13)) (.lit 4)), true), ((.lt (.ar .shr .u16 (.var j 0 65535) (.lit 13)) (.lit 4)), false), ((.eq (.ar .and .u16 (.var j 0 65535) (.lit 3)) (.lit 1)), true), ((.eq (.ar .and .u16 (.var j 0 65535) (.lit 3)) (.lit 0)), false)]) : False := by
  have h0 := hh _ _ (.head _)
  have h1 := hh _ _ (.tail _ (.head _))
  have h2 := hh _ _ (.tail _ (.tail _ (.head _)))
  have h3 := hh _ _ (.tail _ (.tail _ (.tail _ (.head _))))
  have h4 := hh _ _ (.tail _ (.tail _ (.tail _ (.tail _ (.head _)))))
  have h5 := hh _ _ (.tail _ (.tail _ (.tail _ (.tail _ (.tail _ (.head _))))))
  have h6 := hh _ _ (.tail _ (.tail _ (.tail _ (.tail _ (.tail _ (.tail _ (.head _)))))))
  have h7 := hh _ _ (.tail _ (.tail _ (.tail _ (.tail _ (.tail _ (.tail _ (.tail _ (.head _))))))))
  have h8 := hh _ _ (.tail _ (.tail _ (.tail _ (.tail _ (.tail _ (.tail _ (.tail _ (.tail _ (.head _)))))))))
  have h9 := hh _ _ (.tail _ (.tail _ (.tail _ (.tail _ (.tail _ (.tail _ (.tail _ (.tail _ (.tail _ (.head _))))))))))
  have h10 := hh _ _ (.tail _ (.tail _ (.tail _ (.tail _ (.tail _ (.tail _ (.tail _ (.tail _ (.tail _ (.tail _ (.head _)))))))))))
  have h11 := hh _ _ (.tail _ (.tail _ (.tail _ (.tail _ (.tail _ (.tail _ (.tail _ (.tail _ (.tail _ (.tail _ (.tail _ (.head _))))))))))))
  have h12 := hh _ _ (.tail _ (.tail _ (.tail _ (.tail _ (.tail _ (.tail _ (.tail _ (.tail _ (.tail _ (.tail _ (.tail _ (.tail _ (.head _)))))))))))))
  have h13 := hh _ _ (.tail _ (.tail _ (.tail _ (.tail _ (.tail _ (.tail _ (.tail _ (.tail _ (.tail _ (.tail _ (.tail _ (.tail _ (.tail _ (.head _))))))))))))))
  have h14 := hh _ _ (.tail _ (.tail _ (.tail _ (.tail _ (.tail _ (.tail _ (.tail _ (.tail _ (.tail _ (.tail _ (.tail _ (.tail _ (.tail _ (.tail _ (.head _)))))))))))))))
  have h15 := hh _ _ (.tail _ (.tail _ (.tail _ (.tail _ (.tail _ (.tail _ (.tail _ (.tail _ (.tail _ (.tail _ (.tail _ (.tail _ (.tail _ (.tail _ (.tail _ (.head _))))))))))))))))
  have h16 := hh _ _ (.tail _ (.tail _ (.tail _ (.tail _ (.tail _ (.tail _ (.tail _ (.tail _ (.tail _ (.tail _ (.tail _ (.tail _ (.tail _ (.tail _ (.tail _ (.tail _ (.head _)))))))))))))))))
  clear hh
  simp only [N.den, true_iff, Bool.false_eq_true, false_iff, bI_ne, ieq_iff, ilt_iff] at h0 h1 h2 h3 h4 h5 h6 h7 h8 h9 h10 h11 h12 h13 h14 h15 h16
  obtain ⟨n, hn, hlt⟩ : ∃ n : Nat, max 0 (min 65535 (i j)) = (n : Int) ∧ n < 65536 := ⟨(max 0 (min 65535 (i j))).toNat, by omega, by omega⟩
  have r1 := c_f003 n hlt
  have r2 := c_f07f n hlt
  have r3 := c_ec03 n hlt
  have r4 := c_fc63 n hlt
  have r5 := c3 n hlt
  have r6 := c31 (n / 128) (by omega)
  have r7 := d3 (n / 32) (by omega)
  have r8 := d1 (n / 4096) (by omega)
  have r9 := d31 (n / 4) (by omega)
  have r10 := d31 (n / 128) (by omega)
  have r11 := w16_5 (n / 4096 % 2) (n / 4 % 32) (by omega) (by omega)
  have r12 := d1 ((n / 4096 % 2 * 32 + n / 4 % 32) / 32) (by omega)
  simp only [hn, s13, t5, t12, t2, r3, r4, r5, r7, r8, r9, r11, r12] at h0 h1 h2 h3 h4 h5 h6 h7 h8 h9 h10 h11 h12 h13 h14 h15 h16
  omega
theorem rv_7 (i : Nat → Int) (j : Nat) (hh : Holds i [((.eq (.ar .and .u32 (.ar .shr .u32 (.var j 0 65535) (.lit 5)) (.lit 3)) (.lit 2)), false), ((.eq (.ar .and .u32 (.ar .shr .u32 (.var j 0 65535) (.lit 5)) (.lit 3)) (.lit 1)), false), ((.eq (.ar .and .u32 (.ar .shr .u32 (.var j 0 65535) (.lit 5)) (.lit 3)) (.lit 0)), false), ((.eq (.ar .and .u32 (.ar .shr .u32 (.ar .or .u32 (.ar .shl .u32 (.ar .and .u32 (.ar .shr .u32 (.var j 0 65535) (.lit 12)) (.lit 1)) (.lit 5)) (.ar .and .u32 (.ar .shr .u32 (.var j 0 65535) (.lit 2)) (.lit 31))) (.lit 5)) (.lit 1)) (.lit 1)), false), ((.eq (.ar .and .u16 (.var j 0 65535) (.lit 64611)) (.lit 39969)), false), ((.eq (.ar .and .u16 (.var j 0 65535) (.lit 64611)) (.lit 39937)), false), ((.eq (.ar .and .u16 (.var j 0 65535) (.lit 64611)) (.lit 35937)), false), ((.eq (.ar .and .u16 (.var j 0 65535) (.lit 64611)) (.lit 35905)), false), ((.eq (.ar .and .u16 (.var j 0 65535) (.lit 64611)) (.lit 35873)), false), ((.eq (.ar .and .u16 (.var j 0 65535) (.lit 64611)) (.lit 35841)), false), ((.eq (.ar .and .u16 (.var j 0 65535) (.lit 60419)) (.lit 34817)), false), ((.eq (.ar .and .u16 (.var j 0 65535) (.lit 60419)) (.lit 33793)), false), ((.eq (.ar .and .u16 (.var j 0 65535) (.lit 60419)) (.lit 32769)), false), ((.eq (.ar .shr .u16 (.var j 0 65535) (.lit 13)) (.lit 4)), true), ((.lt (.ar .shr .u16 (.var j 0 65535) (.lit 13)) (.lit 4)), false), ((.eq (.ar .and .u16 (.var j 0 65535) (.lit 3)) (.lit 1)), true), ((.eq (.ar .and .u16 (.var j 0 65535) (.lit 3)) (.lit 0)), false)]) : False := by
  have h0 := hh _ _ (.head _)
  have h1 := hh _ _ (.tail _ (.head _))
  have h2 := hh _ _ (.tail _ (.tail _ (.head _)))
  have h3 := hh _ _ (.tail _ (.tail _ (.tail _ (.head _))))
  have h4 := hh _ _ (.tail _ (.tail _ (.tail _ (.tail _ (.head _)))))
  have h5 := hh _ _ (.tail _ (.tail _ (.tail _ (.tail _ (.tail _ (.head _))))))
  have h6 := hh _ _ (.tail _ (.tail _ (.tail _ (.tail _ (.tail _ (.tail _ (.head _)))))))
  have h7 := hh _ _ (.tail _ (.tail _ (.tail _ (.tail _ (.tail _ (.tail _ (.tail _ (.head _))))))))
  have h8 := hh _ _ (.tail _ (.tail _ (.tail _ (.tail _ (.tail _ (.tail _ (.tail _ (.tail _ (.head _)))))))))
  have h9 := hh _ _ (.tail _ (.tail _ (.tail _ (.tail _ (.tail _ (.tail _ (.tail _ (.tail _ (.tail _ (.head _))))))))))
  have h10 := hh _ _ (.tail _ (.tail _ (.tail _ (.tail _ (.tail _ (.tail _ (.tail _ (.tail _ (.tail _ (.tail _ (.head _)))))))))))
  have h11 := hh _ _ (.tail _ (.tail _ (.tail _ (.tail _ (.tail _ (.tail _ (.tail _ (.tail _ (.tail _ (.tail _ (.tail _ (.head _))))))))))))
  have h12 := hh _ _ (.tail _ (.tail _ (.tail _ (.tail _ (.tail _ (.tail _ (.tail _ (.tail _ (.tail _ (.tail _ (.tail _ (.tail _ (.head _)))))))))))))
  have h13 := hh _ _ (.tail _ (.tail _ (.tail _ (.tail _ (.tail _ (.tail _ (.tail _ (.tail _ (.tail _ (.tail _ (.tail _ (.tail _ (.tail _ (.head _))))))))))))))
  have h14 := hh _ _ (.tail _ (.tail _ (.tail _ (.tail _ (.tail _ (.tail _ (.tail _ (.tail _ (.tail _ (.tail _ (.tail _ (.tail _ (.tail _ (.tail _ (.head _)))))))))))))))
  have h15 := hh _ _ (.tail _ (.tail _ (.tail _ (.tail _ (.tail _ (.tail _ (.tail _ (.tail _ (.tail _ (.tail _ (.tail _ (.tail _ (.tail _ (.tail _ (.tail _ (.head _))))))))))))))))
  have h16 := hh _ _ (.tail _ (.tail _ (.tail _ (.tail _ (.tail _ (.tail _ (.tail _ (.tail _ (.tail _ (.tail _ (.tail _ (.tail _ (.tail _ (.tail _ (.tail _ (.tail _ (.head _)))))))))))))))))
  clear hh
  simp only [N.den, true_iff, Bool.false_eq_true, false_iff, bI_ne, ieq_iff, ilt_iff] at h0 h1 h2 h3 h4 h5 h6 h7 h8 h9 h10 h11 h12 h13 h14 h15 h16
  obtain ⟨n, hn, hlt⟩ : ∃ n : Nat, max 0 (min 65535 (i j)) = (n : Int) ∧ n < 65536 := ⟨(max 0 (min 65535 (i j))).toNat, by omega, by omega⟩
  have r1 := c_f003 n hlt
  have r2 := c_f07f n hlt
  have r3 := c_ec03 n hlt
  have r4 := c_fc63 n hlt
  have r5 := c3 n hlt
  have r6 := c31 (n / 128) (by omega)
  have r7 := d3 (n / 32) (by omega)
  have r8 := d1 (n / 4096) (by omega)
  have r9 := d31 (n / 4) (by omega)
  have r10 := d31 (n / 128) (by omega)
  have r11 := w16_5 (n / 4096 % 2) (n / 4 % 32) (by omega) (by omega)
  have r12 := d1 ((n / 4096 % 2 * 32 + n / 4 % 32) / 32) (by omega)
  simp only [hn, s13, t5, t12, t2, r3, r4, r5, r7, r8, r9, r11, r12] at h0 h1 h2 h3 h4 h5 h6 h7 h8 h9 h10 h11 h12 h13 h14 h15 h16
  omega
theorem rv_8 (i : Nat → Int) (j : Nat) (hh : Holds i [((.eq (.ar .and .u16 (.ar .shr .u16 (.var j 0 65535) (.lit 7)) (.lit 31)) (.lit 0)), true), ((.eq (.ar .and .u16 (.var j 0 65535) (.lit 61567)) (.lit 36866)), true), ((.eq (.var j 0 65535) (.lit 36866)), false), ((.eq (.ar .and .u16 (.var j 0 65535) (.lit 61443)) (.lit 32770)), false), ((.eq (.ar .and .u16 (.var j 0 65535) (.lit 61567)) (.lit 32770)), false), ((.eq (.ar .shr .u16 (.var j 0 65535) (.lit 13)) (.lit 4)), true), ((.lt (.ar .shr .u16 (.var j 0 65535) (.lit 13)) (.lit 4)), false), ((.eq (.ar .and .u16 (.var j 0 65535) (.lit 3)) (.lit 2)), true), ((.eq (.ar .and .u16 (.var j 0 65535) (.lit 3)) (.lit 1)), false), ((.eq (.ar .and .u16 (.var j 0 65535) (.lit 3)) (.lit 0)), false)]) : False := by
  have h0 := hh _ _ (.head _)
  have h1 := hh _ _ (.tail _ (.head _))
  have h2 := hh _ _ (.tail _ (.tail _ (.head _)))
  have h3 := hh _ _ (.tail _ (.tail _ (.tail _ (.head _))))
  have h4 := hh _ _ (.tail _ (.tail _ (.tail _ (.tail _ (.head _)))))
  have h5 := hh _ _ (.tail _ (.tail _ (.tail _ (.tail _ (.tail _ (.head _))))))
  have h6 := hh _ _ (.tail _ (.tail _ (.tail _ (.tail _ (.tail _ (.tail _ (.head _)))))))
  have h7 := hh _ _ (.tail _ (.tail _ (.tail _ (.tail _ (.tail _ (.tail _ (.tail _ (.head _))))))))
  have h8 := hh _ _ (.tail _ (.tail _ (.tail _ (.tail _ (.tail _ (.tail _ (.tail _ (.tail _ (.head _)))))))))
  have h9 := hh _ _ (.tail _ (.tail _ (.tail _ (.tail _ (.tail _ (.tail _ (.tail _ (.tail _ (.tail _ (.head _))))))))))
  clear hh
  simp only [N.den, true_iff, Bool.false_eq_true, false_iff, bI_ne, ieq_iff, ilt_iff] at h0 h1 h2 h3 h4 h5 h6 h7 h8 h9
  obtain ⟨n, hn, hlt⟩ : ∃ n : Nat, max 0 (min 65535 (i j)) = (n : Int) ∧ n < 65536 := ⟨(max 0 (min 65535 (i j))).toNat, by omega, by omega⟩
  have r1 := c_f003 n hlt
  have r2 := c_f07f n hlt
  have r3 := c_ec03 n hlt
  have r4 := c_fc63 n hlt
  have r5 := c3 n hlt
  have r6 := c31 (n / 128) (by omega)
  have r7 := d3 (n / 32) (by omega)
  have r8 := d1 (n / 4096) (by omega)
  have r9 := d31 (n / 4) (by omega)
  have r10 := d31 (n / 128) (by omega)
  have r11 := w16_5 (n / 4096 % 2) (n / 4 % 32) (by omega) (by omega)
  have r12 := d1 ((n / 4096 % 2 * 32 + n / 4 % 32) / 32) (by omega)
  simp only [hn, s13, s7, r1, r2, r5, r6] at h0 h1 h2 h3 h4 h5 h6 h7 h8 h9
  omega
theorem rv_9 (i : Nat → Int) (j : Nat) (hh : Holds i [((.eq (.ar .and .u32 (.ar .shr .u32 (.var j 0 65535) (.lit 2)) (.lit 31)) (.lit 0)), false), ((.eq (.ar .and .u16 (.var j 0 65535) (.lit 61443)) (.lit 36866)), false), ((.eq (.ar .and .u16 (.var j 0 65535) (.lit 61567)) (.lit 36866)), false), ((.eq (.var j 0 65535) (.lit 36866)), false), ((.eq (.ar .and .u16 (.var j 0 65535) (.lit 61443)) (.lit 32770)), false), ((.eq (.ar .and .u16 (.var j 0 65535) (.lit 61567)) (.lit 32770)), false), ((.eq (.ar .shr .u16 (.var j 0 65535) (.lit 13)) (.lit 4)), true), ((.lt (.ar .shr .u16 (.var j 0 65535) (.lit 13)) (.lit 4)), false), ((.eq (.ar .and .u16 (.var j 0 65535) (.lit 3)) (.lit 2)), true), ((.eq (.ar .and .u16 (.var j 0 65535) (.lit 3)) (.lit 1)), false), ((.eq (.ar .and .u16 (.var j 0 65535) (.lit 3)) (.lit 0)), false)]) : False := by
  have h0 := hh _ _ (.head _)
  have h1 := hh _ _ (.tail _ (.head _))
  have h2 := hh _ _ (.tail _ (.tail _ (.head _)))
  have h3 := hh _ _ (.tail _ (.tail _ (.tail _ (.head _))))
  have h4 := hh _ _ (.tail _ (.tail _ (.tail _ (.tail _ (.head _)))))
  have h5 := hh _ _ (.tail _ (.tail _ (.tail _ (.tail _ (.tail _ (.head _))))))
  have h6 := hh _ _ (.tail _ (.tail _ (.tail _ (.tail _ (.tail _ (.tail _ (.head _)))))))
  have h7 := hh _ _ (.tail _ (.tail _ (.tail _ (.tail _ (.tail _ (.tail _ (.tail _ (.head _))))))))
  have h8 := hh _ _ (.tail _ (.tail _ (.tail _ (.tail _ (.tail _ (.tail _ (.tail _ (.tail _ (.head _)))))))))
  have h9 := hh _ _ (.tail _ (.tail _ (.tail _ (.tail _ (.tail _ (.tail _ (.tail _ (.tail _ (.tail _ (.head _))))))))))
  have h10 := hh _ _ (.tail _ (.tail _ (.tail _ (.tail _ (.tail _ (.tail _ (.tail _ (.tail _ (.tail _ (.tail _ (.head _)))))))))))
  clear hh
  simp only [N.den, true_iff, Bool.false_eq_true, false_iff, bI_ne, ieq_iff, ilt_iff] at h0 h1 h2 h3 h4 h5 h6 h7 h8 h9 h10
  obtain ⟨n, hn, hlt⟩ : ∃ n : Nat, max 0 (min 65535 (i j)) = (n : Int) ∧ n < 65536 := ⟨(max 0 (min 65535 (i j))).toNat, by omega, by omega⟩
  have r1 := c_f003 n hlt
  have r2 := c_f07f n hlt
  have r3 := c_ec03 n hlt
  have r4 := c_fc63 n hlt
  have r5 := c3 n hlt
  have r6 := c31 (n / 128) (by omega)
  have r7 := d3 (n / 32) (by omega)
  have r8 := d1 (n / 4096) (by omega)
  have r9 := d31 (n / 4) (by omega)
  have r10 := d31 (n / 128) (by omega)
  have r11 := w16_5 (n / 4096 % 2) (n / 4 % 32) (by omega) (by omega)
  have r12 := d1 ((n / 4096 % 2 * 32 + n / 4 % 32) / 32) (by omega)
  simp only [hn, s13, t2, r1, r2, r5, r9] at h0 h1 h2 h3 h4 h5 h6 h7 h8 h9 h10
  omega
theorem rv_10 (i : Nat → Int) (j : Nat) (hh : Holds i [((.eq (.ar .and .u32 (.ar .shr .u32 (.var j 0 65535) (.lit 7)) (.lit 31)) (.lit 0)), false), ((.eq (.ar .and .u32 (.ar .shr .u32 (.var j 0 65535) (.lit 2)) (.lit 31)) (.lit 0)), true), ((.eq (.ar .and .u16 (.var j 0 65535) (.lit 61443)) (.lit 36866)), false), ((.eq (.ar .and .u16 (.var j 0 65535) (.lit 61567)) (.lit 36866)), false), ((.eq (.var j 0 65535) (.lit 36866)), false), ((.eq (.ar .and .u16 (.var j 0 65535) (.lit 61443)) (.lit 32770)), false), ((.eq (.ar .and .u16 (.var j 0 65535) (.lit 61567)) (.lit 32770)), false), ((.eq (.ar .shr .u16 (.var j 0 65535) (.lit 13)) (.lit 4)), true), ((.lt (.ar .shr .u16 (.var j 0 65535) (.lit 13)) (.lit 4)), false), ((.eq (.ar .and .u16 (.var j 0 65535) (.lit 3)) (.lit 2)), true), ((.eq (.ar .and .u16 (.var j 0 65535) (.lit 3)) (.lit 1)), false), ((.eq (.ar .and .u16 (.var j 0 65535) (.lit 3)) (.lit 0)), false)]) : False := by
  have h0 := hh _ _ (.head _)
  have h1 := hh _ _ (.tail _ (.head _))
  have h2 := hh _ _ (.tail _ (.tail _ (.head _)))
  have h3 := hh _ _ (.tail _ (.tail _ (.tail _ (.head _))))
  have h4 := hh _ _ (.tail _ (.tail _ (.tail _ (.tail _ (.head _)))))
  have h5 := hh _ _ (.tail _ (.tail _ (.tail _ (.tail _ (.tail _ (.head _))))))
  have h6 := hh _ _ (.tail _ (.tail _ (.tail _ (.tail _ (.tail _ (.tail _ (.head _)))))))
  have h7 := hh _ _ (.tail _ (.tail _ (.tail _ (.tail _ (.tail _ (.tail _ (.tail _ (.head _))))))))
  have h8 := hh _ _ (.tail _ (.tail _ (.tail _ (.tail _ (.tail _ (.tail _ (.tail _ (.tail _ (.head _)))))))))
  have h9 := hh _ _ (.tail _ (.tail _ (.tail _ (.tail _ (.tail _ (.tail _ (.tail _ (.tail _ (.tail _ (.head _))))))))))
  have h10 := hh _ _ (.tail _ (.tail _ (.tail _ (.tail _ (.tail _ (.tail _ (.tail _ (.tail _ (.tail _ (.tail _ (.head _)))))))))))
  have h11 := hh _ _ (.tail _ (.tail _ (.tail _ (.tail _ (.tail _ (.tail _ (.tail _ (.tail _ (.tail _ (.tail _ (.tail _ (.head _))))))))))))
  clear hh
  simp only [N.den, true_iff, Bool.false_eq_true, false_iff, bI_ne, ieq_iff, ilt_iff] at h0 h1 h2 h3 h4 h5 h6 h7 h8 h9 h10 h11
  obtain ⟨n, hn, hlt⟩ : ∃ n : Nat, max 0 (min 65535 (i j)) = (n : Int) ∧ n < 65536 := ⟨(max 0 (min 65535 (i j))).toNat, by omega, by omega⟩
  have r1 := c_f003 n hlt
  have r2 := c_f07f n hlt
  have r3 := c_ec03 n hlt
  have r4 := c_fc63 n hlt
  have r5 := c3 n hlt
  have r6 := c31 (n / 128) (by omega)
  have r7 := d3 (n / 32) (by omega)
  have r8 := d1 (n / 4096) (by omega)
  have r9 := d31 (n / 4) (by omega)
  have r10 := d31 (n / 128) (by omega)
  have r11 := w16_5 (n / 4096 % 2) (n / 4 % 32) (by omega) (by omega)
  have r12 := d1 ((n / 4096 % 2 * 32 + n / 4 % 32) / 32) (by omega)
  simp only [hn, s13, t2, t7, r1, r2, r5, r9, r10] at h0 h1 h2 h3 h4 h5 h6 h7 h8 h9 h10 h11
  omega
theorem excOf_no (j : Nat) : ∀ q ∈ excOf j, ∀ i, ¬ Holds i q :=
  List.forall_mem_cons.2 ⟨(fun i => rv_0 i j), List.forall_mem_cons.2 ⟨(fun i => rv_1 i j), List.forall_mem_cons.2 ⟨(fun i => rv_2 i j), List.forall_mem_cons.2 ⟨(fun i => rv_3 i j), List.forall_mem_cons.2 ⟨(fun i => rv_4 i j), List.forall_mem_cons.2 ⟨(fun i => rv_5 i j), List.forall_mem_cons.2 ⟨(fun i => rv_6 i j), List.forall_mem_cons.2 ⟨(fun i => rv_7 i j), List.forall_mem_cons.2 ⟨(fun i => rv_8 i j), List.forall_mem_cons.2 ⟨(fun i => rv_9 i j), List.forall_mem_cons.2 ⟨(fun i => rv_10 i j), (fun p h => by cases h)⟩⟩⟩⟩⟩⟩⟩⟩⟩⟩⟩
theorem exc0_no : ∀ q ∈ exc0, ∀ i, ¬ Holds i q := by
  intro q hq
  simp only [exc0, List.mem_append] at hq
  have key : ∃ j, q ∈ excOf j := by
    rcases hq with ((((((((((((((hq | hq) | hq) | hq) | hq) | hq) | hq) | hq) | hq) | hq) | hq) | hq) | hq) | hq) | hq) | hq <;> exact ⟨_, hq⟩
  obtain ⟨j, hj⟩ := key
  exact excOf_no j q hj
end Go.Proofs.Ythdhleaigphgeaa.Sx
