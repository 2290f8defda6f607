/- TrapLeaves: one of the cases of some bits holds. -/
import Derived.Test.YthlmpiaijiegjaaLTrapLeaves
namespace Go.Proofs.Ythlmpiaijiegjaa.Sx
open Go
theorem eqTrue {e : Nat → Int} {a b : N} (h : a.den e = b.den e) : (true = true ↔ (N.eq a b).den e ≠ 0) := by
  simp only [N.den, true_iff, bI_ne, ieq_iff, h]
theorem eqFalse {e : Nat → Int} {a b : N} (h : a.den e ≠ b.den e) : (false = true ↔ (N.eq a b).den e ≠ 0) := by
  simp only [N.den, Bool.false_eq_true, false_iff, bI_ne, ieq_iff, ne_eq]; exact fun k => (h (by simpa using k)).elim
theorem none_ok (e : Nat → Int) : Holds e [] := fun _ _ h => by cases h
theorem cases_ok (e : Nat → Int) : Holds e case0 ∨ Holds e case1 ∨ Holds e case2 ∨ Holds e case3 ∨ Holds e case4 ∨ Holds e case5 ∨ Holds e case6 ∨ Holds e case7 ∨ Holds e case8 ∨ Holds e case9 ∨ Holds e case10 ∨ Holds e case11 ∨ Holds e case12 ∨ Holds e case13 ∨ Holds e case14 ∨ Holds e case15 := by
  by_cases h0 : N.den e (.ar .and .u64 v1 (.lit 2048)) = N.den e (.lit 0)
  · by_cases h1 : N.den e (.ar .and .u64 v1 (.lit 4096)) = N.den e (.lit 0)
    · by_cases h2 : N.den e (.ar .and .u64 v1 (.lit 128)) = N.den e (.lit 0)
      · by_cases h3 : N.den e (.ar .and .u64 v1 (.lit 8)) = N.den e (.lit 0)
        · exact .inl (((((none_ok e).cons (eqTrue h3)).cons (eqTrue h2)).cons (eqTrue h1)).cons (eqTrue h0))
        · exact .inr (.inl (((((none_ok e).cons (eqFalse h3)).cons (eqTrue h2)).cons (eqTrue h1)).cons (eqTrue h0)))
      · by_cases h3 : N.den e (.ar .and .u64 v1 (.lit 8)) = N.den e (.lit 0)
        · exact .inr (.inr (.inl (((((none_ok e).cons (eqTrue h3)).cons (eqFalse h2)).cons (eqTrue h1)).cons (eqTrue h0))))
        · exact .inr (.inr (.inr (.inl (((((none_ok e).cons (eqFalse h3)).cons (eqFalse h2)).cons (eqTrue h1)).cons (eqTrue h0)))))
    · by_cases h2 : N.den e (.ar .and .u64 v1 (.lit 128)) = N.den e (.lit 0)
      · by_cases h3 : N.den e (.ar .and .u64 v1 (.lit 8)) = N.den e (.lit 0)
        · exact .inr (.inr (.inr (.inr (.inl (((((none_ok e).cons (eqTrue h3)).cons (eqTrue h2)).cons (eqFalse h1)).cons (eqTrue h0))))))
        · exact .inr (.inr (.inr (.inr (.inr (.inl (((((none_ok e).cons (eqFalse h3)).cons (eqTrue h2)).cons (eqFalse h1)).cons (eqTrue h0)))))))
      · by_cases h3 : N.den e (.ar .and .u64 v1 (.lit 8)) = N.den e (.lit 0)
        · exact .inr (.inr (.inr (.inr (.inr (.inr (.inl (((((none_ok e).cons (eqTrue h3)).cons (eqFalse h2)).cons (eqFalse h1)).cons (eqTrue h0))))))))
        · exact .inr (.inr (.inr (.inr (.inr (.inr (.inr (.inl (((((none_ok e).cons (eqFalse h3)).cons (eqFalse h2)).cons (eqFalse h1)).cons (eqTrue h0)))))))))
  · by_cases h1 : N.den e (.ar .and .u64 v1 (.lit 4096)) = N.den e (.lit 0)
    · by_cases h2 : N.den e (.ar .and .u64 v1 (.lit 128)) = N.den e (.lit 0)
      · by_cases h3 : N.den e (.ar .and .u64 v1 (.lit 8)) = N.den e (.lit 0)
        · exact .inr (.inr (.inr (.inr (.inr (.inr (.inr (.inr (.inl (((((none_ok e).cons (eqTrue h3)).cons (eqTrue h2)).cons (eqTrue h1)).cons (eqFalse h0))))))))))
        · exact .inr (.inr (.inr (.inr (.inr (.inr (.inr (.inr (.inr (.inl (((((none_ok e).cons (eqFalse h3)).cons (eqTrue h2)).cons (eqTrue h1)).cons (eqFalse h0)))))))))))
      · by_cases h3 : N.den e (.ar .and .u64 v1 (.lit 8)) = N.den e (.lit 0)
        · exact .inr (.inr (.inr (.inr (.inr (.inr (.inr (.inr (.inr (.inr (.inl (((((none_ok e).cons (eqTrue h3)).cons (eqFalse h2)).cons (eqTrue h1)).cons (eqFalse h0))))))))))))
        · exact .inr (.inr (.inr (.inr (.inr (.inr (.inr (.inr (.inr (.inr (.inr (.inl (((((none_ok e).cons (eqFalse h3)).cons (eqFalse h2)).cons (eqTrue h1)).cons (eqFalse h0)))))))))))))
    · by_cases h2 : N.den e (.ar .and .u64 v1 (.lit 128)) = N.den e (.lit 0)
      · by_cases h3 : N.den e (.ar .and .u64 v1 (.lit 8)) = N.den e (.lit 0)
        · exact .inr (.inr (.inr (.inr (.inr (.inr (.inr (.inr (.inr (.inr (.inr (.inr (.inl (((((none_ok e).cons (eqTrue h3)).cons (eqTrue h2)).cons (eqFalse h1)).cons (eqFalse h0))))))))))))))
        · exact .inr (.inr (.inr (.inr (.inr (.inr (.inr (.inr (.inr (.inr (.inr (.inr (.inr (.inl (((((none_ok e).cons (eqFalse h3)).cons (eqTrue h2)).cons (eqFalse h1)).cons (eqFalse h0)))))))))))))))
      · by_cases h3 : N.den e (.ar .and .u64 v1 (.lit 8)) = N.den e (.lit 0)
        · exact .inr (.inr (.inr (.inr (.inr (.inr (.inr (.inr (.inr (.inr (.inr (.inr (.inr (.inr (.inl (((((none_ok e).cons (eqTrue h3)).cons (eqFalse h2)).cons (eqFalse h1)).cons (eqFalse h0))))))))))))))))
        · exact .inr (.inr (.inr (.inr (.inr (.inr (.inr (.inr (.inr (.inr (.inr (.inr (.inr (.inr (.inr (((((none_ok e).cons (eqFalse h3)).cons (eqFalse h2)).cons (eqFalse h1)).cons (eqFalse h0))))))))))))))))
end Go.Proofs.Ythlmpiaijiegjaa.Sx
