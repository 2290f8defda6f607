/- AluWords: one of the cases holds. -/
import Derived.Test.YtblphdjfdjaegaaLAluWords
namespace Go.Proofs.Ytblphdjfdjaegaa.Sx
open Go
theorem eqTrue {e : Nat → Int} {a b : N} (h : a.den e = b.den e) : (true = true ↔ (N.eq a b).den e ≠ 0) := by
  simp only [N.den, true_iff, bI_ne, ieq_iff, h]
theorem eqFalse {e : Nat → Int} {a b : N} (h : a.den e ≠ b.den e) : (false = true ↔ (N.eq a b).den e ≠ 0) := by
  simp only [N.den, Bool.false_eq_true, false_iff, bI_ne, ieq_iff, ne_eq]; exact fun k => (h (by simpa using k)).elim
theorem none_ok (e : Nat → Int) : Holds e [] := fun _ _ h => by cases h
theorem cases_ok (e : Nat → Int) : Holds e (case0 ++ common) ∨ Holds e (case1 ++ common) ∨ Holds e (case2 ++ common) ∨ Holds e (case3 ++ common) ∨ Holds e (case4 ++ common) ∨ Holds e (case5 ++ common) := by
  by_cases hz : N.den e (.ar .and .u64 v1 (.lit 4294967295)) = N.den e (.lit 0)
  · by_cases h0 : N.den e (.conv .i32 v1) = N.den e (.lit 0)
    · exact .inl (((none_ok e).cons (eqTrue hz)).cons (eqTrue h0))
    · by_cases h1 : N.den e (.conv .i32 v1) = N.den e (.lit (-1))
      · exact .inr (.inl ((((none_ok e).cons (eqTrue hz)).cons (eqTrue h1)).cons (eqFalse h0)))
      · exact .inr (.inr (.inl ((((none_ok e).cons (eqTrue hz)).cons (eqFalse h1)).cons (eqFalse h0))))
  · by_cases h0 : N.den e (.conv .i32 v1) = N.den e (.lit 0)
    · exact .inr (.inr (.inr (.inl (((none_ok e).cons (eqFalse hz)).cons (eqTrue h0)))))
    · by_cases h1 : N.den e (.conv .i32 v1) = N.den e (.lit (-1))
      · exact .inr (.inr (.inr (.inr (.inl ((((none_ok e).cons (eqFalse hz)).cons (eqTrue h1)).cons (eqFalse h0))))))
      · exact .inr (.inr (.inr (.inr (.inr ((((none_ok e).cons (eqFalse hz)).cons (eqFalse h1)).cons (eqFalse h0))))))
end Go.Proofs.Ytblphdjfdjaegaa.Sx
