/- SamplePlays: shapes that may not be, and lists that are not few. -/
import Derived.Test.YtgicehhenahfpaaDoorBe
set_option linter.unusedVariables false
set_option linter.unusedSimpArgs false
namespace Go.Proofs.YtgicehhenahfpaaDoor
open Go.RowKit
attribute [local go_sem] Oper.semAt_some
/-- The law answers true, and what there was stays. -/
def Yes (w : World) (e : Ending) (w' : World) : Prop := e = .returned (.bool true) ∧ Below w.heap.size w w'
/-- May it be? -/
def Good (m n : Int) : Prop := 1 ≤ m ∧ m ≤ 64 ∧ 1 ≤ n ∧ n ≤ 16
theorem new_at {m n : Int} (v : Int) (h : Good m n) (w : World) : Calls Tryd.prog 5 #[.int .i64 m, .int .u32 v, .int .i64 n] w fun e w' => ∃ C, e = .returned (.tuple #[.pointer (some ⟨C, 0, none⟩), .int .i64 0]) ∧ Box w' C 56 (chan m v n false 0 ⟨#[]⟩ fresh0) ∧ w.heap.size ≤ C ∧ Below w.heap.size w w' := by
  refine (new_ok h.1 h.2.1 h.2.2.1 h.2.2.2 w).mono ?_
  rintro e w' ⟨rfl, rfl⟩
  exact ⟨_, rfl, Box.made _ _ _, Nat.le_refl _, (Below.refl _ _).alloc (Nat.le_refl _) _⟩
theorem may_yes {m n : Int} (h : Good m n) (w : World) : Calls Tryd.prog 6 #[.int .i64 m, .int .i64 n] w fun e w' => e = .returned (.bool true) ∧ w = w' := by
  obtain ⟨h1, h2, h3, h4⟩ := h
  go_enter Tryd.func6, Tryd.ntmps6
  go_wp2
  go_ret
  exact ⟨rfl, rfl⟩
theorem may_no {m n : Int} (h : ¬ Good m n) (w : World) : Calls Tryd.prog 6 #[.int .i64 m, .int .i64 n] w fun e w' => e = .returned (.bool false) ∧ w = w' := by
  unfold Good at h
  by_cases h1 : 1 ≤ m
  · by_cases h2 : m ≤ 64
    · by_cases h3 : 1 ≤ n
      · have h4 : ¬ n ≤ 16 := fun h4 => h ⟨h1, h2, h3, h4⟩
        clear h
        go_enter Tryd.func6, Tryd.ntmps6
        go_wp2
        go_ret
        exact ⟨rfl, rfl⟩
      · clear h
        go_enter Tryd.func6, Tryd.ntmps6
        go_wp2
        go_ret
        exact ⟨rfl, rfl⟩
    · clear h
      go_enter Tryd.func6, Tryd.ntmps6
      go_wp2
      go_ret
      exact ⟨rfl, rfl⟩
  · clear h
    go_enter Tryd.func6, Tryd.ntmps6
    go_wp2
    go_ret
    exact ⟨rfl, rfl⟩
section
variable {m v n : Int} {a : Option Addr} {len cap : Nat} {l : List Deed} {w : World}
set_option maxHeartbeats 1000000 in
theorem plays_bad (h : ¬ Good m n) : Calls Tryd.prog 3 #[.agg #[.int .i64 m, .int .u32 v, .int .i64 n], .slice a len cap] w (Yes w) := by
  have hX := Box.made w 24 #[.int .i64 m, .int .u32 v, .int .i64 n]
  have x0 := hX.read 0
  have x1 := hX.read 1
  have x2 := hX.read 2
  have HN := Lib.hid fun W => new_bad (v := v) h W
  have HM := Lib.hid fun W => may_no h W
  have T0 : Hid (Below w.heap.size w (w.alloc (.cells #[.int .i64 m, .int .u32 v, .int .i64 n] 24))) := Lib.hid ((Below.refl _ _).alloc (Nat.le_refl _) _)
  clear h hX
  simp only [List.getElem?_toArray, List.getElem?_cons_zero, List.getElem?_cons_succ] at x0 x1 x2
  go_enter Tryd.func3, Tryd.ntmps3
  go_wp2_with (first
    | (go_at_call 8; refine (works_any _).mono ?_; rintro e w2 ⟨rfl, bl3⟩; have T2 := Lib.hid (T0.out.trans (bl3.mono T0.out.size)); clear bl3)
    | (go_at_call 6; refine (HM.out _).mono ?_; rintro e w1 ⟨rfl, rfl⟩)
    | (go_at_call 5; refine (HN.out _).mono ?_; rintro e w1 ⟨rfl, rfl⟩))
  go_ret
  exact ⟨rfl, T2.out⟩
set_option maxHeartbeats 1000000 in
theorem plays_much (g : Good m n) (hl : IsDeeds w a len l) (hf : fewB len l = false) : Calls Tryd.prog 3 #[.agg #[.int .i64 m, .int .u32 v, .int .i64 n], .slice a len cap] w (Yes w) := by
  have hX := Box.made w 24 #[.int .i64 m, .int .u32 v, .int .i64 n]
  have x0 := hX.read 0
  have x1 := hX.read 1
  have x2 := hX.read 2
  have HN := Lib.hid fun W => new_at v g W
  have HM := Lib.hid fun W => may_yes g W
  have T0 : Hid (Below w.heap.size w (w.alloc (.cells #[.int .i64 m, .int .u32 v, .int .i64 n] 24))) := Lib.hid ((Below.refl _ _).alloc (Nat.le_refl _) _)
  have HX := Lib.hid hX
  have HF := Lib.hid fun W (hb : Below w.heap.size w W) => few_any a len cap l W (hl.later hb)
  rw [hf] at HF
  clear g hX hl hf
  simp only [List.getElem?_toArray, List.getElem?_cons_zero, List.getElem?_cons_succ] at x0 x1 x2
  go_enter Tryd.func3, Tryd.ntmps3
  go_wp2_with (first
    | (go_at_call 8; refine (works_any _).mono ?_; rintro e w2 ⟨rfl, bl3⟩; have T2 := Lib.hid (T1.out.trans (bl3.mono T1.out.size)); clear bl3)
    | (go_at_call 7; refine (HF.out _ T1.out).mono ?_; rintro e w1 ⟨rfl, rfl⟩)
    | (go_at_call 6; refine (HM.out _).mono ?_; rintro e w1 ⟨rfl, rfl⟩)
    | (go_at_call 5; refine (HN.out _).mono ?_; rintro e w1 ⟨C1, rfl, hb1, hC1, bl1⟩; have T1 := Lib.hid (T0.out.trans (bl1.mono T0.out.size)); have hX1 := HX.out.over bl1 HX.out.inHeap; have y0 := hX1.read 0; have y2 := hX1.read 2; simp only [List.getElem?_toArray, List.getElem?_cons_zero, List.getElem?_cons_succ] at y0 y2; clear hX1 bl1 hC1 hb1))
  go_ret
  exact ⟨rfl, T2.out⟩
end
end Go.Proofs.YtgicehhenahfpaaDoor
