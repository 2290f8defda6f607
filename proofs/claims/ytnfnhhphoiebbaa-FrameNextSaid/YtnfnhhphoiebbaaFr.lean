/- FrameNext: the law's body. -/
import Derived.Test.YtnfnhhphoiebbaaFq
set_option linter.unusedVariables false
set_option linter.unusedSimpArgs false
namespace Go.Proofs.Ytnfnhhphoiebbaa
open Go.RowKit
theorem owd_step {l : List Win} (ht : 0 < tot l) (g st : Nat) : owd l g (st + 1) = owd l g st + (if (fr l).getD (st % tot l) 0 = g then 1 else 0) := by
  have hr : st % tot l < tot l := Nat.mod_lt _ ht
  have hs := ahd_step l g (st % tot l) hr
  have hd := Nat.div_add_mod st (tot l)
  unfold owd
  by_cases h : st % tot l + 1 < tot l
  · have e1 : (st + 1) % tot l = st % tot l + 1 := by rw [Nat.add_mod, Nat.mod_eq_of_lt (a := 1) (by omega), Nat.mod_eq_of_lt h]
    have e2 : (st + 1) / tot l = st / tot l := by
      rw [show st + 1 = (st % tot l + 1) + tot l * (st / tot l) by omega, Nat.add_mul_div_left _ _ ht, Nat.div_eq_of_lt h]
      omega
    rw [e1, e2, hs]
    omega
  · have e0 : st % tot l + 1 = tot l := by omega
    have e3 : st + 1 = tot l * (st / tot l + 1) := by rw [Nat.mul_succ]; omega
    have e1 : (st + 1) % tot l = 0 := by rw [e3]; exact Nat.mul_mod_right _ _
    have e2 : (st + 1) / tot l = st / tot l + 1 := by rw [e3]; exact Nat.mul_div_cancel_left _ ht
    rw [e0, ahd_all] at hs
    rw [e1, e2, ahd_zero, Nat.succ_mul, hs]
    omega
theorem owned_to {w : World} {p wb wc bb bo bc : Nat} {l : List Win} (hq : Tb w p wb wc bb bo bc l) (g st : Nat) (hg : g < 256) (hst : st < 1152921504606846976) (z : Int) (hz : z = (st : Nat)) (v : Int) (hv : v = (owd l g st : Nat)) : Calls Try.prog 13 #[.pointer (some ⟨p, 0, none⟩), .int .u8 g, .int .u64 z] w fun e w' => e = .returned (.int .u64 v) ∧ Below w.heap.size w w' := by
  subst hz
  subst hv
  exact owned_any hq g st hg hst
theorem fn_long (G : Int) (g zf : Nat) (a : Option Addr) (n cap : Nat) (w : World) (h : 60 < n) : Calls Try.prog 5 #[.slice a n cap, .int .i64 G, .agg #[.int .u8 g, .int .u64 zf]] w (Yes w) := by
  go_enter Try.func5, Try.ntmps5
  go_wp2_with (go_at_call 6; refine (awake_any _).mono ?_; rintro e w' ⟨rfl, hb⟩)
  go_ret
  exact ⟨rfl, ((Below.refl _ w).alloc (Nat.le_refl _) _).trans (hb.mono (by simp))⟩
theorem fn_bad (G : Int) (g zf : Nat) (a : Option Addr) (n cap : Nat) (l : List Win) (w : World) (hG1 : -9223372036854775808 ≤ G) (hG2 : G ≤ 9223372036854775807) (hn : ¬ 60 < n) (hf : IsWins w a n l) (hc : chk G l ≠ 0) : Calls Try.prog 5 #[.slice a n cap, .int .i64 G, .agg #[.int .u8 g, .int .u64 zf]] w (Yes w) := by
  have H0 := Lib.hid ((Below.refl _ w).alloc (Nat.le_refl _) (.cells #[.int .u8 g, .int .u64 zf] 39))
  have HN := Lib.hid (new_bad G a n cap l _ hG1 hG2 (by omega) (hf.later H0.out) hc)
  have e0 : ((chk G l : Int) != 0) = true := bne_iff_ne.2 (by omega)
  clear hf hc
  generalize chk G l = c at HN e0
  go_enter Try.func5, Try.ntmps5
  go_wp2_with (first
    | (go_at_call 6; have Hx := H1; refine (awake_any _).mono ?_; rintro e w3 ⟨rfl, hb3⟩)
    | (go_at_call 7; refine HN.out.mono ?_; rintro e w1 ⟨rfl, hb1⟩; have H1 := Lib.hid (H0.out.trans (hb1.mono H0.out.size)); clear hb1))
  go_ret
  exact ⟨rfl, H1.out.trans (hb3.mono H1.out.size)⟩
end Go.Proofs.Ytnfnhhphoiebbaa
