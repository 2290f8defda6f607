/- Do of the chapter's own numbers. -/
import Derived.Test.YtmpedmiehhnniaaD
namespace Go.Proofs.Ytmpedmiehhnniaa
open Go.RowKit

/-- The low word of a number, sign-extended, as it is reckoned. -/
def sgn (v : Int) : Int := IntKind.u64.wrap (wrap64 (wrap32 v))

set_option maxHeartbeats 1000000 in
theorem signed_any (v : Int) (w : World) : Calls Try.prog 57 #[.int .u64 v] w fun e w' => e = .returned (.int .u64 (sgn v)) ∧ w' = w := by
  go_enter Try.func57, Try.ntmps57
  go_wp2_with go_in
  go_ret
  exact ⟨rfl, rfl⟩

theorem ret_int {k : IntKind} {a b : Int} (h : a = b) : Ending.returned (.int k a) = Ending.returned (.int k b) := by rw [h]
theorem ret_two {k : IntKind} {a b c d : Int} (h : a = b) (g : c = d) : Ending.returned (.tuple #[.int k a, .int k c]) = Ending.returned (.tuple #[.int k b, .int k d]) := by rw [h, g]
theorem val_sraw : sgn (IntKind.u64.wrap (wrap64 (sgn 2147483648) / 16)) = 18446744073575333888 := by decide +kernel
theorem val_div : IntKind.u64.wrap (wrap64 ((wrap64 18446744073709551609).tdiv 2)) = 18446744073709551613 := by decide +kernel
theorem val_rem : IntKind.u64.wrap ((wrap64 18446744073709551609).tmod 2) = 18446744073709551615 := by decide +kernel
theorem and_known : bits BinOp.and IntKind.u64 4 31 = 4 := by decide +kernel

set_option maxHeartbeats 1000000 in
theorem sraw_known (w : World) :
    Calls Try.prog 75 #[.agg #[.int .u64 2147483648, .int .u64 4]] w fun e w' => e = .returned (.int .u64 18446744073575333888) ∧ Below w.heap.size w w' := by
  have ha := and_known
  go_enter Try.func75, Try.ntmps75
  go_wp2
  go_quiet ((go_at_call 57; exact Calls.quiet_of_same (signed_any _ _)))
  go_wp2_with fail
  go_ret
  exact ⟨ret_int val_sraw, below_drawn ((Below.refl _ _).alloc (Nat.le_refl _) _) _⟩

set_option maxHeartbeats 1000000 in
theorem divide_known (w : World) :
    Calls Try.prog 58 #[.agg #[.int .u64 18446744073709551609, .int .u64 2]] w fun e w' => e = .returned (.tuple #[.int .u64 18446744073709551613, .int .u64 18446744073709551615]) ∧ Below w.heap.size w w' := by
  go_enter Try.func58, Try.ntmps58
  go_wp2
  go_quiet (fail)
  go_wp2_with fail
  go_ret2
  exact ⟨ret_two val_div val_rem, below_drawn ((Below.refl _ _).alloc (Nat.le_refl _) _) _⟩

set_option maxHeartbeats 1000000 in
theorem do_sraw_known (w : World) :
    Calls Try.prog 31 #[.int .u8 49, .int .u64 2147483648, .int .u64 4] w fun e w' => e = .returned (.tuple #[.int .u64 18446744073575333888, .bool true]) ∧ Below w.heap.size w w' := by
  go_enter Try.func31, Try.ntmps31
  go_wp2_with (first
    | (go_at_call 48
       refine (word_any 49 (by decide) (by decide) _).mono ?_
       rintro e w1 ⟨rfl, h1, d1⟩
       obtain ⟨g1, c0, c1, dd⟩ := behind h1 d1
       have hl : (Instr.lookup 77 (.map (some (w.heap.size + 1 + 1))) (.int .u8 49) false).run Try.prog w1 = .ok (.func (.func 75) #[] #[]) w1 := run_bookLook Try.underlying77 Try.underlying5 g1 49 4 (FN 75) (by kernel_rfl)
       have Hd := Lib.hid dd
       clear h1 d1 g1 dd)
    | (go_at_call 75; refine (sraw_known _).mono ?_; rintro e w2 ⟨rfl, d2⟩)
    | go_in)
  go_ret2
  exact ⟨rfl, Hd.out.trans (d2.mono Hd.out.size)⟩

set_option maxHeartbeats 1000000 in
theorem do_div_known (w : World) :
    Calls Try.prog 31 #[.int .u8 58, .int .u64 18446744073709551609, .int .u64 2] w fun e w' => e = .returned (.tuple #[.int .u64 18446744073709551613, .bool true]) ∧ Below w.heap.size w w' := by
  go_enter Try.func31, Try.ntmps31
  go_wp2_with (first
    | (go_at_call 58; refine (divide_known _).mono ?_; rintro e w2 ⟨rfl, d2⟩)
    | go_in)
  go_ret2
  exact ⟨rfl, (((Below.refl _ _).alloc (Nat.le_refl _) _).alloc (by simp) _).trans (d2.mono (by simp; omega))⟩

set_option maxHeartbeats 1000000 in
theorem do_mulhu_known (w : World) :
    Calls Try.prog 31 #[.int .u8 57, .int .u64 18446744073709551615, .int .u64 18446744073709551615] w fun e w' => e = .returned (.tuple #[.int .u64 18446744073709551614, .bool true]) ∧ Below w.heap.size w w' := by
  go_enter Try.func31, Try.ntmps31
  go_wp2_with (first
    | (go_at_call 48
       refine (prod_any 57 (by decide) (by decide) _).mono ?_
       rintro e w1 ⟨rfl, h1, d1⟩
       obtain ⟨g1, c0, c1, dd⟩ := behind h1 d1
       have hl : (Instr.lookup 77 (.map (some (w.heap.size + 1 + 1))) (.int .u8 57) false).run Try.prog w1 = .ok (.func (.func 79) #[] #[]) w1 := run_bookLook Try.underlying77 Try.underlying5 g1 57 3 (FN 79) (by kernel_rfl)
       have Hd := Lib.hid dd
       clear h1 d1 g1 dd)
    | go_in)
  go_ret2
  exact ⟨by kernel_rfl, Hd.out.alloc Hd.out.size _⟩
end Go.Proofs.Ytmpedmiehhnniaa
