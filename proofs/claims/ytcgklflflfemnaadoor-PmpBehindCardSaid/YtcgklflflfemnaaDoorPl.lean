/- Bytes that are put in the place of others; what modes may. -/
import Derived.Test.YtcgklflflfemnaaDoorPg
set_option linter.unusedVariables false
set_option linter.unusedSimpArgs false
namespace Go.Proofs.YtcgklflflfemnaaDoor
theorem u64v (x : Nat) : BitVec.ofInt 64 (x : Int) = BitVec.ofNat 64 x := by
  apply BitVec.eq_of_toNat_eq
  rw [BitVec.toNat_ofInt, BitVec.toNat_ofNat]
  omega
theorem wrapBV (r : BitVec 64) : IntKind.u64.wrap (r.toNat : Int) = (r.toNat : Int) := by
  have := r.isLt
  show (r.toNat : Int) % 18446744073709551616 = _
  omega
theorem andNot_eq (x y : Nat) : bits .andNot .u64 (x : Int) (y : Int) = (((BitVec.ofNat 64 x) &&& ~~~ (BitVec.ofNat 64 y)).toNat : Int) := by
  have h : bits .andNot .u64 (x : Int) (y : Int) = IntKind.u64.wrap (((BitVec.ofInt 64 (x : Int)) &&& ~~~ (BitVec.ofInt 64 (y : Int))).toNat : Int) := rfl
  rw [h, u64v, u64v, wrapBV]
theorem and_eq (x y : Nat) : bits .and .u64 (x : Int) (y : Int) = (((BitVec.ofNat 64 x) &&& (BitVec.ofNat 64 y)).toNat : Int) := by
  have h : bits .and .u64 (x : Int) (y : Int) = IntKind.u64.wrap (((BitVec.ofInt 64 (x : Int)) &&& (BitVec.ofInt 64 (y : Int))).toNat : Int) := rfl
  rw [h, u64v, u64v, wrapBV]
theorem or_eq (x y : Nat) : bits .or .u64 (x : Int) (y : Int) = (((BitVec.ofNat 64 x) ||| (BitVec.ofNat 64 y)).toNat : Int) := by
  have h : bits .or .u64 (x : Int) (y : Int) = IntKind.u64.wrap (((BitVec.ofInt 64 (x : Int)) ||| (BitVec.ofInt 64 (y : Int))).toNat : Int) := rfl
  rw [h, u64v, u64v, wrapBV]
/-- A byte's place. -/
def mkB (k : Nat) : Nat := 255 * 2 ^ (8 * k)
def fa (F k : Nat) : Nat := ((BitVec.ofNat 64 F) &&& ~~~ (BitVec.ofNat 64 (mkB k))).toNat
def cb (C k : Nat) : Nat := ((BitVec.ofNat 64 C) &&& (BitVec.ofNat 64 (mkB k))).toNat
def nextF (F C k : Nat) : Nat := ((BitVec.ofNat 64 (fa F k)) ||| (BitVec.ofNat 64 (cb C k))).toNat
theorem nextF_lt (F C k : Nat) : nextF F C k < 18446744073709551616 := BitVec.isLt _
theorem nextF_bit {F C k t : Nat} (hk : k < 8) (ht : t < 8 * k) : (nextF F C k).testBit t = F.testBit t := by
  have hm : (mkB k).testBit t = false := by
    unfold mkB
    rw [Nat.testBit_mul_two_pow]
    simp [show ¬ 8 * k ≤ t by omega]
  have h64 : t < 64 := by omega
  unfold nextF fa cb
  rw [BitVec.testBit_toNat, BitVec.getLsbD_or, BitVec.getLsbD_ofNat, BitVec.getLsbD_ofNat, BitVec.testBit_toNat, BitVec.testBit_toNat, BitVec.getLsbD_and, BitVec.getLsbD_and, BitVec.getLsbD_not, BitVec.getLsbD_ofNat, BitVec.getLsbD_ofNat, BitVec.getLsbD_ofNat, hm]
  simp [h64]
theorem nextF_byte {F C k j : Nat} (hk : k < 8) (hj : j < k) : cfgB (nextF F C k) j = cfgB F j := by
  unfold cfgB
  apply Nat.eq_of_testBit_eq
  intro b
  rw [show (256 : Nat) = 2 ^ 8 from rfl, Nat.testBit_mod_two_pow, Nat.testBit_mod_two_pow, Nat.testBit_div_two_pow, Nat.testBit_div_two_pow]
  by_cases hb : b < 8
  · rw [nextF_bit hk (by omega)]
  · simp [hb]
theorem mkB_lt {k : Nat} (hk : k < 8) : mkB k < 18446744073709551616 := by
  unfold mkB
  have : 2 ^ (8 * k) ≤ 2 ^ 56 := Nat.pow_le_pow_right (by decide) (by omega)
  have h2 : (2 : Nat) ^ 56 = 72057594037927936 := by decide
  omega
/-- Entries that agree as far as i. -/
theorem entOf_agree {c F : Nat} {A D : Nat → Nat} {i : Nat} (hF : ∀ j, j ≤ i → cfgB F j = cfgB c j) (hD : ∀ j, j ≤ i → D j = A j) : ∀ j, j ≤ i → entOf F D j = entOf c A j := fun j hj => by
  have h1 := hF j hj
  have h2 : own D j = own A j := by unfold own; rw [hD j hj]
  have h3 : from' D j = from' A j := by
    unfold from'
    split
    · rfl
    · unfold own; rw [hD (j - 1) (by omega)]
  unfold entOf
  rw [h1, h2, h3]
section
variable {kind lo hi : Nat} {r : Option (Nat × Ent)} {all : Bool}
theorem allowed_su : allowed 0 kind lo hi r = allowed 1 kind lo hi r := by
  unfold allowed entOk
  cases r <;> simp
theorem allowed_up (h : allowed 0 kind lo hi r = true) : allowed 3 kind lo hi r = true := by
  unfold allowed at h ⊢
  cases r with
  | none => simp at h
  | some r =>
    simp only at h ⊢
    split at h
    · rename_i hh
      rw [if_pos hh]
      unfold entOk at h ⊢
      split
      · rfl
      · rw [if_neg (by omega)] at h
        exact h
    · cases h
theorem m_refused (h : allowed 3 kind lo hi r = false) : ∃ i e, r = some (i, e) ∧ (¬ holds e lo hi ∨ 128 ≤ e.b) := by
  unfold allowed at h
  cases r with
  | none => simp at h
  | some r =>
    obtain ⟨i, e⟩ := r
    refine ⟨i, e, rfl, ?_⟩
    simp only at h
    split at h
    · right
      unfold entOk at h
      split at h
      · cases h
      · omega
    · rename_i hh
      exact .inl hh
end
end Go.Proofs.YtcgklflflfemnaaDoor
