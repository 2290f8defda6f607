/- reach, First, Check. -/
import Derived.Test.YtcgklflflfemnaaDoorPc
set_option linter.unusedVariables false
set_option linter.unusedSimpArgs false
namespace Go.Proofs.YtcgklflflfemnaaDoor
open Go.RowKit
/-- An access. -/
abbrev acc (mode kind at' : Nat) (z : Int) : Value := .agg #[.int .u8 mode, .int .u8 kind, .int .u64 at', .int .i64 z]
def moreOf (z : Int) : Nat := (max z 1 - 1).toNat
def hiOf (at' m : Nat) : Nat := if at' + m < 18446744073709551616 then at' + m else 18446744073709551615
theorem ends18 {W4 : World} {q : Nat} {f l : Int} {ok : Bool} (h : Box W4 q 43 #[.int .u64 f, .int .u64 l]) (tmps : Array Value) (hp : tmps.getD 2 undef = .pointer (some ⟨q, 0, none⟩)) (hq : tmps.getD 3 undef = .bool ok) :
    (results Tryd.f18 tmps).run Tryd.prog W4 = .ok (.tuple #[.agg #[.int .u64 f, .int .u64 l], .bool ok]) W4 := by
  have n0 := h.read 0
  have n1 := h.read 1
  have hp' : tmps[2]?.getD undef = .pointer (some ⟨q, 0, none⟩) := by simpa using hp
  have hq' : tmps[3]?.getD undef = .bool ok := by simpa using hq
  simp at n0 n1
  simp [results, Tryd.results18, go_sem, n0, n1, hp', hq']
theorem box2 (w : World) (o : Obj) (t : TypeId) (cs : Array Value) : Box ((w.alloc o).alloc (.cells cs t)) (w.heap.size + 1) t cs := by
  have := Box.made (w.alloc o) t cs
  rwa [World.size_alloc] at this
theorem ret18 {f ok : Value} {l l' : Int} (h : l = l') : Ending.returned (.tuple #[.agg #[f, .int .u64 l], ok]) = .returned (.tuple #[.agg #[f, .int .u64 l'], ok]) := by rw [h]
set_option maxHeartbeats 1000000 in
theorem reach_any (mode kind at' : Nat) (z : Int) (hz0 : -9223372036854775808 ≤ z) (hz1 : z ≤ 9223372036854775807) (ha : at' < 18446744073709551616) (w : World) : Calls Tryd.prog 18 #[acc mode kind at' z] w fun e w' => e = .returned (.tuple #[.agg #[.int .u64 at', .int .u64 (hiOf at' (moreOf z) : Nat)], .bool (decide (at' + moreOf z < 18446744073709551616))]) ∧ Below w.heap.size w w' := by
  obtain ⟨m, hm⟩ : ∃ m, m = moreOf z := ⟨_, rfl⟩
  have hmz : (m : Int) = max z 1 - 1 := by rw [hm]; unfold moreOf; omega
  rw [← hm]
  clear hm
  have hx := xor_not at' ha
  have hxc : ((18446744073709551615 - at' : Nat) : Int) = 18446744073709551615 - (at' : Int) := by omega
  rw [hxc] at hx
  clear hxc
  have HB := Lib.hid (fun (x y : Value) => ((Below.refl _ w).alloc (Nat.le_refl _) (.cells #[.int .u8 mode, .int .u8 kind, .int .u64 at', .int .i64 z] 35)).alloc (by simp) (.cells #[x, y] 43))
  have m0 : (0 : Int) ≤ (m : Int) := Int.natCast_nonneg _
  have a0 : (0 : Int) ≤ (at' : Int) := Int.natCast_nonneg _
  have a1 : (at' : Int) ≤ 18446744073709551615 := by omega
  have HZ := Lib.hid hmz
  by_cases hov : at' + m < 18446744073709551616
  · have e1 : hiOf at' m = at' + m := if_pos hov
    have e2 : decide (at' + m < 18446744073709551616) = true := decide_eq_true hov
    rw [e1, e2]
    have HO := Lib.hid hov
    clear e1 e2 hov
    by_cases h1 : z ≤ 1
    · have y2 : m = 0 := by omega
      subst y2
      clear hmz
      go_enter Tryd.func18, Tryd.ntmps18
      go_wp2
      all_goals exact bodyPost_ret (ends18 (q := w.heap.size + 1) (box2 w _ 43 _) _ rfl rfl) rfl ⟨ret18 (by have := HZ.out; omega), HB.out _ _⟩
    · have y3 : z - 1 = (m : Int) := by omega
      have v1 : decide ((18446744073709551615 : Int) - (at' : Int) < z - 1) = false := decide_eq_false (by have := HO.out; omega)
      have v3 : (at' : Int) + (z - 1) < 18446744073709551616 := by have := HO.out; omega
      clear hmz y3
      go_enter Tryd.func18, Tryd.ntmps18
      go_wp2
      all_goals exact bodyPost_ret (ends18 (q := w.heap.size + 1) (box2 w _ 43 _) _ rfl rfl) rfl ⟨ret18 (by have := HZ.out; omega), HB.out _ _⟩
  · have e1 : hiOf at' m = 18446744073709551615 := if_neg hov
    have e2 : decide (at' + m < 18446744073709551616) = false := decide_eq_false hov
    rw [e1, e2]
    have h1 : ¬ z ≤ 1 := by omega
    have v1 : decide ((18446744073709551615 : Int) - (at' : Int) < z - 1) = true := decide_eq_true (by omega)
    clear e1 e2 hov hmz
    go_enter Tryd.func18, Tryd.ntmps18
    go_wp2
    all_goals exact bodyPost_ret (ends18 (q := w.heap.size + 1) (box2 w _ 43 _) _ rfl rfl) rfl ⟨ret18 (by have := HZ.out; omega), HB.out _ _⟩
end Go.Proofs.YtcgklflflfemnaaDoor
