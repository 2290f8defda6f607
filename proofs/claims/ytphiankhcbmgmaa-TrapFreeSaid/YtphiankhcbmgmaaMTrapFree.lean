/- TrapFree: one of the cases of bits holds. -/
import Derived.Test.YtphiankhcbmgmaaLTrapFree
namespace Go.Proofs.Ytphiankhcbmgmaa.Sx
open Go
theorem eqTrue {e : Nat → Int} {a b : N} (h : a.den e = b.den e) : (true = true ↔ (N.eq a b).den e ≠ 0) := by
  simp only [N.den, true_iff, bI_ne, ieq_iff, h]
theorem eqFalse {e : Nat → Int} {a b : N} (h : a.den e ≠ b.den e) : (false = true ↔ (N.eq a b).den e ≠ 0) := by
  simp only [N.den, Bool.false_eq_true, false_iff, bI_ne, ieq_iff, ne_eq]; exact fun k => (h (by simpa using k)).elim
theorem none_ok (e : Nat → Int) : Holds e [] := fun _ _ h => by cases h
theorem rem_u8 (e : Nat → Int) : ∃ n : Nat, N.den e (.ar .rem .u8 v31 (.lit 6)) = (n : Int) ∧ n < 6 := by
  obtain ⟨y, hy⟩ : ∃ y : Nat, N.den e (.var 31 0 255) = (y : Int) := ⟨(max 0 (min 255 (e 31))).toNat, by simp only [N.den]; omega⟩
  refine ⟨y % 6, ?_, Nat.mod_lt _ (by decide)⟩
  simp only [N.den] at hy ⊢
  rw [hy]
  simp only [arF]
  exact (Int.ofNat_tmod y 6).symm ▸ rfl
theorem free0_ok (e : Nat → Int) (hk : N.den e (.ar .rem .u8 v31 (.lit 6)) = N.den e (.lit 0)) : Holds e case0 ∨ Holds e case1 ∨ Holds e case2 ∨ Holds e case3 ∨ Holds e case4 ∨ Holds e case5 ∨ Holds e case6 ∨ Holds e case7 := by
  by_cases ho : N.den e (.ar .and .u64 v6 (.lit 2048)) = N.den e (.lit 0)
  · by_cases h2 : N.den e (.ar .and .u64 v2 (.lit 2048)) = N.den e (.lit 0)
    · exact .inl ((((none_ok e).cons (eqTrue ho)).cons (eqTrue h2)).cons (eqTrue hk))
    · by_cases h3 : N.den e (.ar .and .u64 v3 (.lit 2048)) = N.den e (.lit 0)
      · by_cases h4 : N.den e (.ar .and .u64 v4 (.lit 2048)) = N.den e (.lit 0)
        · exact .inr (.inr (.inr (.inr (.inr (.inr (.inl ((((((none_ok e).cons (eqTrue ho)).cons (eqTrue h4)).cons (eqTrue h3)).cons (eqFalse h2)).cons (eqTrue hk))))))))
        · exact .inr (.inr (.inr (.inr (.inl ((((((none_ok e).cons (eqTrue ho)).cons (eqFalse h4)).cons (eqTrue h3)).cons (eqFalse h2)).cons (eqTrue hk))))))
      · exact .inr (.inr (.inl (((((none_ok e).cons (eqTrue ho)).cons (eqFalse h3)).cons (eqFalse h2)).cons (eqTrue hk))))
  · by_cases h2 : N.den e (.ar .and .u64 v2 (.lit 2048)) = N.den e (.lit 0)
    · exact .inr (.inl ((((none_ok e).cons (eqFalse ho)).cons (eqTrue h2)).cons (eqTrue hk)))
    · by_cases h3 : N.den e (.ar .and .u64 v3 (.lit 2048)) = N.den e (.lit 0)
      · by_cases h4 : N.den e (.ar .and .u64 v4 (.lit 2048)) = N.den e (.lit 0)
        · exact .inr (.inr (.inr (.inr (.inr (.inr (.inr ((((((none_ok e).cons (eqFalse ho)).cons (eqTrue h4)).cons (eqTrue h3)).cons (eqFalse h2)).cons (eqTrue hk))))))))
        · exact .inr (.inr (.inr (.inr (.inr (.inl ((((((none_ok e).cons (eqFalse ho)).cons (eqFalse h4)).cons (eqTrue h3)).cons (eqFalse h2)).cons (eqTrue hk)))))))
      · exact .inr (.inr (.inr (.inl (((((none_ok e).cons (eqFalse ho)).cons (eqFalse h3)).cons (eqFalse h2)).cons (eqTrue hk)))))
theorem free1_ok (e : Nat → Int) (hk : N.den e (.ar .rem .u8 v31 (.lit 6)) = N.den e (.lit 1)) : Holds e case8 ∨ Holds e case9 ∨ Holds e case10 ∨ Holds e case11 ∨ Holds e case12 ∨ Holds e case13 ∨ Holds e case14 ∨ Holds e case15 := by
  by_cases ho : N.den e (.ar .and .u64 v6 (.lit 8)) = N.den e (.lit 0)
  · by_cases h2 : N.den e (.ar .and .u64 v2 (.lit 8)) = N.den e (.lit 0)
    · exact .inl ((((none_ok e).cons (eqTrue ho)).cons (eqTrue h2)).cons (eqTrue hk))
    · by_cases h3 : N.den e (.ar .and .u64 v3 (.lit 8)) = N.den e (.lit 0)
      · by_cases h4 : N.den e (.ar .and .u64 v4 (.lit 8)) = N.den e (.lit 0)
        · exact .inr (.inr (.inr (.inr (.inr (.inr (.inl ((((((none_ok e).cons (eqTrue ho)).cons (eqTrue h4)).cons (eqTrue h3)).cons (eqFalse h2)).cons (eqTrue hk))))))))
        · exact .inr (.inr (.inr (.inr (.inl ((((((none_ok e).cons (eqTrue ho)).cons (eqFalse h4)).cons (eqTrue h3)).cons (eqFalse h2)).cons (eqTrue hk))))))
      · exact .inr (.inr (.inl (((((none_ok e).cons (eqTrue ho)).cons (eqFalse h3)).cons (eqFalse h2)).cons (eqTrue hk))))
  · by_cases h2 : N.den e (.ar .and .u64 v2 (.lit 8)) = N.den e (.lit 0)
    · exact .inr (.inl ((((none_ok e).cons (eqFalse ho)).cons (eqTrue h2)).cons (eqTrue hk)))
    · by_cases h3 : N.den e (.ar .and .u64 v3 (.lit 8)) = N.den e (.lit 0)
      · by_cases h4 : N.den e (.ar .and .u64 v4 (.lit 8)) = N.den e (.lit 0)
        · exact .inr (.inr (.inr (.inr (.inr (.inr (.inr ((((((none_ok e).cons (eqFalse ho)).cons (eqTrue h4)).cons (eqTrue h3)).cons (eqFalse h2)).cons (eqTrue hk))))))))
        · exact .inr (.inr (.inr (.inr (.inr (.inl ((((((none_ok e).cons (eqFalse ho)).cons (eqFalse h4)).cons (eqTrue h3)).cons (eqFalse h2)).cons (eqTrue hk)))))))
      · exact .inr (.inr (.inr (.inl (((((none_ok e).cons (eqFalse ho)).cons (eqFalse h3)).cons (eqFalse h2)).cons (eqTrue hk)))))
theorem free2_ok (e : Nat → Int) (hk : N.den e (.ar .rem .u8 v31 (.lit 6)) = N.den e (.lit 2)) : Holds e case16 ∨ Holds e case17 ∨ Holds e case18 ∨ Holds e case19 ∨ Holds e case20 ∨ Holds e case21 ∨ Holds e case22 ∨ Holds e case23 := by
  by_cases ho : N.den e (.ar .and .u64 v6 (.lit 128)) = N.den e (.lit 0)
  · by_cases h2 : N.den e (.ar .and .u64 v2 (.lit 128)) = N.den e (.lit 0)
    · exact .inl ((((none_ok e).cons (eqTrue ho)).cons (eqTrue h2)).cons (eqTrue hk))
    · by_cases h3 : N.den e (.ar .and .u64 v3 (.lit 128)) = N.den e (.lit 0)
      · by_cases h4 : N.den e (.ar .and .u64 v4 (.lit 128)) = N.den e (.lit 0)
        · exact .inr (.inr (.inr (.inr (.inr (.inr (.inl ((((((none_ok e).cons (eqTrue ho)).cons (eqTrue h4)).cons (eqTrue h3)).cons (eqFalse h2)).cons (eqTrue hk))))))))
        · exact .inr (.inr (.inr (.inr (.inl ((((((none_ok e).cons (eqTrue ho)).cons (eqFalse h4)).cons (eqTrue h3)).cons (eqFalse h2)).cons (eqTrue hk))))))
      · exact .inr (.inr (.inl (((((none_ok e).cons (eqTrue ho)).cons (eqFalse h3)).cons (eqFalse h2)).cons (eqTrue hk))))
  · by_cases h2 : N.den e (.ar .and .u64 v2 (.lit 128)) = N.den e (.lit 0)
    · exact .inr (.inl ((((none_ok e).cons (eqFalse ho)).cons (eqTrue h2)).cons (eqTrue hk)))
    · by_cases h3 : N.den e (.ar .and .u64 v3 (.lit 128)) = N.den e (.lit 0)
      · by_cases h4 : N.den e (.ar .and .u64 v4 (.lit 128)) = N.den e (.lit 0)
        · exact .inr (.inr (.inr (.inr (.inr (.inr (.inr ((((((none_ok e).cons (eqFalse ho)).cons (eqTrue h4)).cons (eqTrue h3)).cons (eqFalse h2)).cons (eqTrue hk))))))))
        · exact .inr (.inr (.inr (.inr (.inr (.inl ((((((none_ok e).cons (eqFalse ho)).cons (eqFalse h4)).cons (eqTrue h3)).cons (eqFalse h2)).cons (eqTrue hk)))))))
      · exact .inr (.inr (.inr (.inl (((((none_ok e).cons (eqFalse ho)).cons (eqFalse h3)).cons (eqFalse h2)).cons (eqTrue hk)))))
theorem free3_ok (e : Nat → Int) (hk : N.den e (.ar .rem .u8 v31 (.lit 6)) = N.den e (.lit 3)) : Holds e case24 ∨ Holds e case25 ∨ Holds e case26 ∨ Holds e case27 ∨ Holds e case28 ∨ Holds e case29 ∨ Holds e case30 ∨ Holds e case31 := by
  by_cases ho : N.den e (.ar .and .u64 v6 (.lit 512)) = N.den e (.lit 0)
  · by_cases h2 : N.den e (.ar .and .u64 v2 (.lit 512)) = N.den e (.lit 0)
    · exact .inl ((((none_ok e).cons (eqTrue ho)).cons (eqTrue h2)).cons (eqTrue hk))
    · by_cases h3 : N.den e (.ar .and .u64 v3 (.lit 512)) = N.den e (.lit 0)
      · by_cases h4 : N.den e (.ar .and .u64 v4 (.lit 512)) = N.den e (.lit 0)
        · exact .inr (.inr (.inr (.inr (.inr (.inr (.inl ((((((none_ok e).cons (eqTrue ho)).cons (eqTrue h4)).cons (eqTrue h3)).cons (eqFalse h2)).cons (eqTrue hk))))))))
        · exact .inr (.inr (.inr (.inr (.inl ((((((none_ok e).cons (eqTrue ho)).cons (eqFalse h4)).cons (eqTrue h3)).cons (eqFalse h2)).cons (eqTrue hk))))))
      · exact .inr (.inr (.inl (((((none_ok e).cons (eqTrue ho)).cons (eqFalse h3)).cons (eqFalse h2)).cons (eqTrue hk))))
  · by_cases h2 : N.den e (.ar .and .u64 v2 (.lit 512)) = N.den e (.lit 0)
    · exact .inr (.inl ((((none_ok e).cons (eqFalse ho)).cons (eqTrue h2)).cons (eqTrue hk)))
    · by_cases h3 : N.den e (.ar .and .u64 v3 (.lit 512)) = N.den e (.lit 0)
      · by_cases h4 : N.den e (.ar .and .u64 v4 (.lit 512)) = N.den e (.lit 0)
        · exact .inr (.inr (.inr (.inr (.inr (.inr (.inr ((((((none_ok e).cons (eqFalse ho)).cons (eqTrue h4)).cons (eqTrue h3)).cons (eqFalse h2)).cons (eqTrue hk))))))))
        · exact .inr (.inr (.inr (.inr (.inr (.inl ((((((none_ok e).cons (eqFalse ho)).cons (eqFalse h4)).cons (eqTrue h3)).cons (eqFalse h2)).cons (eqTrue hk)))))))
      · exact .inr (.inr (.inr (.inl (((((none_ok e).cons (eqFalse ho)).cons (eqFalse h3)).cons (eqFalse h2)).cons (eqTrue hk)))))
theorem free4_ok (e : Nat → Int) (hk : N.den e (.ar .rem .u8 v31 (.lit 6)) = N.den e (.lit 4)) : Holds e case32 ∨ Holds e case33 ∨ Holds e case34 ∨ Holds e case35 ∨ Holds e case36 ∨ Holds e case37 ∨ Holds e case38 ∨ Holds e case39 := by
  by_cases ho : N.den e (.ar .and .u64 v6 (.lit 2)) = N.den e (.lit 0)
  · by_cases h2 : N.den e (.ar .and .u64 v2 (.lit 2)) = N.den e (.lit 0)
    · exact .inl ((((none_ok e).cons (eqTrue ho)).cons (eqTrue h2)).cons (eqTrue hk))
    · by_cases h3 : N.den e (.ar .and .u64 v3 (.lit 2)) = N.den e (.lit 0)
      · by_cases h4 : N.den e (.ar .and .u64 v4 (.lit 2)) = N.den e (.lit 0)
        · exact .inr (.inr (.inr (.inr (.inr (.inr (.inl ((((((none_ok e).cons (eqTrue ho)).cons (eqTrue h4)).cons (eqTrue h3)).cons (eqFalse h2)).cons (eqTrue hk))))))))
        · exact .inr (.inr (.inr (.inr (.inl ((((((none_ok e).cons (eqTrue ho)).cons (eqFalse h4)).cons (eqTrue h3)).cons (eqFalse h2)).cons (eqTrue hk))))))
      · exact .inr (.inr (.inl (((((none_ok e).cons (eqTrue ho)).cons (eqFalse h3)).cons (eqFalse h2)).cons (eqTrue hk))))
  · by_cases h2 : N.den e (.ar .and .u64 v2 (.lit 2)) = N.den e (.lit 0)
    · exact .inr (.inl ((((none_ok e).cons (eqFalse ho)).cons (eqTrue h2)).cons (eqTrue hk)))
    · by_cases h3 : N.den e (.ar .and .u64 v3 (.lit 2)) = N.den e (.lit 0)
      · by_cases h4 : N.den e (.ar .and .u64 v4 (.lit 2)) = N.den e (.lit 0)
        · exact .inr (.inr (.inr (.inr (.inr (.inr (.inr ((((((none_ok e).cons (eqFalse ho)).cons (eqTrue h4)).cons (eqTrue h3)).cons (eqFalse h2)).cons (eqTrue hk))))))))
        · exact .inr (.inr (.inr (.inr (.inr (.inl ((((((none_ok e).cons (eqFalse ho)).cons (eqFalse h4)).cons (eqTrue h3)).cons (eqFalse h2)).cons (eqTrue hk)))))))
      · exact .inr (.inr (.inr (.inl (((((none_ok e).cons (eqFalse ho)).cons (eqFalse h3)).cons (eqFalse h2)).cons (eqTrue hk)))))
theorem free5_ok (e : Nat → Int) (hk : N.den e (.ar .rem .u8 v31 (.lit 6)) = N.den e (.lit 5)) : Holds e case40 ∨ Holds e case41 ∨ Holds e case42 ∨ Holds e case43 ∨ Holds e case44 ∨ Holds e case45 ∨ Holds e case46 ∨ Holds e case47 := by
  by_cases ho : N.den e (.ar .and .u64 v6 (.lit 32)) = N.den e (.lit 0)
  · by_cases h2 : N.den e (.ar .and .u64 v2 (.lit 32)) = N.den e (.lit 0)
    · exact .inl ((((none_ok e).cons (eqTrue ho)).cons (eqTrue h2)).cons (eqTrue hk))
    · by_cases h3 : N.den e (.ar .and .u64 v3 (.lit 32)) = N.den e (.lit 0)
      · by_cases h4 : N.den e (.ar .and .u64 v4 (.lit 32)) = N.den e (.lit 0)
        · exact .inr (.inr (.inr (.inr (.inr (.inr (.inl ((((((none_ok e).cons (eqTrue ho)).cons (eqTrue h4)).cons (eqTrue h3)).cons (eqFalse h2)).cons (eqTrue hk))))))))
        · exact .inr (.inr (.inr (.inr (.inl ((((((none_ok e).cons (eqTrue ho)).cons (eqFalse h4)).cons (eqTrue h3)).cons (eqFalse h2)).cons (eqTrue hk))))))
      · exact .inr (.inr (.inl (((((none_ok e).cons (eqTrue ho)).cons (eqFalse h3)).cons (eqFalse h2)).cons (eqTrue hk))))
  · by_cases h2 : N.den e (.ar .and .u64 v2 (.lit 32)) = N.den e (.lit 0)
    · exact .inr (.inl ((((none_ok e).cons (eqFalse ho)).cons (eqTrue h2)).cons (eqTrue hk)))
    · by_cases h3 : N.den e (.ar .and .u64 v3 (.lit 32)) = N.den e (.lit 0)
      · by_cases h4 : N.den e (.ar .and .u64 v4 (.lit 32)) = N.den e (.lit 0)
        · exact .inr (.inr (.inr (.inr (.inr (.inr (.inr ((((((none_ok e).cons (eqFalse ho)).cons (eqTrue h4)).cons (eqTrue h3)).cons (eqFalse h2)).cons (eqTrue hk))))))))
        · exact .inr (.inr (.inr (.inr (.inr (.inl ((((((none_ok e).cons (eqFalse ho)).cons (eqFalse h4)).cons (eqTrue h3)).cons (eqFalse h2)).cons (eqTrue hk)))))))
      · exact .inr (.inr (.inr (.inl (((((none_ok e).cons (eqFalse ho)).cons (eqFalse h3)).cons (eqFalse h2)).cons (eqTrue hk)))))
end Go.Proofs.Ytphiankhcbmgmaa.Sx
