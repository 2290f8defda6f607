/- SampleSame: shapes that may not be, and lists that are not few. -/
import Derived.Test.YtgicehhenahfpaaAh
set_option linter.unusedVariables false
set_option linter.unusedSimpArgs false
namespace Go.Proofs.Ytgicehhenahfpaa
open Go.RowKit
attribute [local go_sem] Oper.semAt_some
/-- The law answers true, and what there was stays. -/
def Yes (w : World) (e : Ending) (w' : World) : Prop := e = .returned (.bool true) ∧ Below w.heap.size w w'
/-- Two shapes. -/
def shapes (m1 v1 n1 m2 v2 n2 : Int) : Array Value := #[.int .i64 m1, .int .u32 v1, .int .i64 n1, .int .i64 m2, .int .u32 v2, .int .i64 n2]
/-- May it be? -/
def Good (m n : Int) : Prop := 1 ≤ m ∧ m ≤ 64 ∧ 1 ≤ n ∧ n ≤ 16
theorem new_at {m n : Int} (v : Int) (h : Good m n) (w : World) : Calls Try.prog 7 #[.int .i64 m, .int .u32 v, .int .i64 n] w fun e w' => ∃ C, e = .returned (.tuple #[.pointer (some ⟨C, 0, none⟩), .int .i64 0]) ∧ Box w' C 57 (chan m v n false 0 ⟨#[]⟩ fresh0) ∧ w.heap.size ≤ C ∧ Below w.heap.size w w' := by
  refine (new_ok h.1 h.2.1 h.2.2.1 h.2.2.2 w).mono ?_
  rintro e w' ⟨rfl, rfl⟩
  exact ⟨_, rfl, Box.made _ _ _, Nat.le_refl _, (Below.refl _ _).alloc (Nat.le_refl _) _⟩
section
variable {m1 v1 n1 m2 v2 n2 : Int} {a a' : Option Addr} {len len' cap cap' : Nat} {l l' : List Deed} {w : World}
set_option maxHeartbeats 1000000 in
theorem same_bad1 (h : ¬ Good m1 n1) : Calls Try.prog 3 #[.agg (shapes m1 v1 n1 m2 v2 n2), .slice a len cap, .slice a' len' cap'] w (Yes w) := by
  have hX := Box.made w 25 (shapes m1 v1 n1 m2 v2 n2)
  have x0 := hX.read 0
  have x1 := hX.read 1
  have x2 := hX.read 2
  have x3 := hX.read 3
  have x4 := hX.read 4
  have x5 := hX.read 5
  have HN := Lib.hid fun W => new_bad (v := v1) h W
  have T0 : Hid (Below w.heap.size w (w.alloc (.cells (shapes m1 v1 n1 m2 v2 n2) 25))) := Lib.hid ((Below.refl _ _).alloc (Nat.le_refl _) _)
  clear h hX
  simp only [shapes, List.getElem?_toArray, List.getElem?_cons_zero, List.getElem?_cons_succ] at x0 x1 x2 x3 x4 x5 ⊢
  go_enter Try.func3, Try.ntmps3
  go_wp2_with (first
    | (go_at_call 9; refine (works_any _).mono ?_; rintro e w2 ⟨rfl, bl3⟩; have T2 := Lib.hid (T1.out.trans (bl3.mono T1.out.size)); clear bl3)
    | (go_at_call 7; refine (HM.out _).mono ?_; rintro e w1 ⟨p, z, rfl, bl⟩; have T1 := Lib.hid (T0.out.trans (bl.mono T0.out.size)); clear bl)
    | (go_at_call 7; refine (HN.out _).mono ?_; rintro e w1 ⟨rfl, rfl⟩; have HM := Lib.hid fun W => new_weak m2 v2 n2 W))
  go_ret
  exact ⟨rfl, T2.out⟩
set_option maxHeartbeats 1000000 in
theorem same_bad2 (g : Good m1 n1) (h : ¬ Good m2 n2) : Calls Try.prog 3 #[.agg (shapes m1 v1 n1 m2 v2 n2), .slice a len cap, .slice a' len' cap'] w (Yes w) := by
  have hX := Box.made w 25 (shapes m1 v1 n1 m2 v2 n2)
  have x0 := hX.read 0
  have x1 := hX.read 1
  have x2 := hX.read 2
  have HN := Lib.hid fun W => new_at v1 g W
  have H2 := Lib.hid h
  have T0 : Hid (Below w.heap.size w (w.alloc (.cells (shapes m1 v1 n1 m2 v2 n2) 25))) := Lib.hid ((Below.refl _ _).alloc (Nat.le_refl _) _)
  have HX := Lib.hid hX
  clear h hX
  simp only [shapes, List.getElem?_toArray, List.getElem?_cons_zero, List.getElem?_cons_succ] at x0 x1 x2 HX ⊢
  go_enter Try.func3, Try.ntmps3
  go_wp2_with (first
    | (go_at_call 9; refine (works_any _).mono ?_; rintro e w2 ⟨rfl, bl3⟩; have T2 := Lib.hid (T1.out.trans (bl3.mono T1.out.size)); clear bl3)
    | (go_at_call 7; refine (HM.out _).mono ?_; rintro e w1 ⟨rfl, rfl⟩)
    | (go_at_call 7; refine (HN.out _).mono ?_; rintro e w1 ⟨C1, rfl, hb1, hC1, bl1⟩; have T1 := Lib.hid (T0.out.trans (bl1.mono T0.out.size)); have hX1 := HX.out.over bl1 HX.out.inHeap; have y3 := hX1.read 3; have y4 := hX1.read 4; have y5 := hX1.read 5; simp only [List.getElem?_toArray, List.getElem?_cons_zero, List.getElem?_cons_succ] at y3 y4 y5; clear hX1 bl1 hC1 hb1; have HM := Lib.hid fun W => new_bad (v := v2) H2.out W))
  go_ret
  exact ⟨rfl, T2.out⟩
set_option maxHeartbeats 1000000 in
theorem same_much (g : Good m1 n1) (g2 : Good m2 n2) (hl : IsDeeds w a len l) (hl' : IsDeeds w a' len' l') (hf : fewB len l = false ∨ fewB len' l' = false) : Calls Try.prog 3 #[.agg (shapes m1 v1 n1 m2 v2 n2), .slice a len cap, .slice a' len' cap'] w (Yes w) := by
  have hX := Box.made w 25 (shapes m1 v1 n1 m2 v2 n2)
  have x0 := hX.read 0
  have x1 := hX.read 1
  have x2 := hX.read 2
  have HN := Lib.hid fun W => new_at v1 g W
  have T0 : Hid (Below w.heap.size w (w.alloc (.cells (shapes m1 v1 n1 m2 v2 n2) 25))) := Lib.hid ((Below.refl _ _).alloc (Nat.le_refl _) _)
  have HX := Lib.hid hX
  have HF := Lib.hid fun W (hb : Below w.heap.size w W) => few_any a len cap l W (hl.later hb)
  have HG := Lib.hid fun W (hb : Below w.heap.size w W) => few_any a' len' cap' l' W (hl'.later hb)
  generalize hfa : fewB len l = fa at HF hf
  generalize hfb : fewB len' l' = fb at HG hf
  clear hX hl hl' hfa hfb
  simp only [shapes, List.getElem?_toArray, List.getElem?_cons_zero, List.getElem?_cons_succ] at x0 x1 x2 HX ⊢
  obtain ⟨rfl, rfl⟩ | rfl : (fa = true ∧ fb = false) ∨ fa = false := by
    cases fa
    · exact .inr rfl
    · rcases hf with h | h
      · cases h
      · exact .inl ⟨rfl, h⟩
  all_goals
    go_enter Try.func3, Try.ntmps3
    go_wp2_with (first
      | (go_at_call 9; refine (works_any _).mono ?_; rintro e w2 ⟨rfl, bl3⟩; have T3 := Lib.hid (T2.out.trans (bl3.mono T2.out.size)); clear bl3)
      | (go_at_call 8; refine (HG1.out).mono ?_; rintro e w3 ⟨rfl, rfl⟩)
      | (go_at_call 8; refine (HF.out _ T2.out).mono ?_; rintro e w3 ⟨rfl, rfl⟩; have HG1 := Lib.hid (HG.out _ T2.out))
      | (go_at_call 7; refine (HM.out _).mono ?_; rintro e w2 ⟨C2, rfl, hb2, hC2, bl2⟩; have T2 := Lib.hid (T1.out.trans (bl2.mono T1.out.size)); clear bl2 hC2 hb2)
      | (go_at_call 7; refine (HN.out _).mono ?_; rintro e w1 ⟨C1, rfl, hb1, hC1, bl1⟩; have T1 := Lib.hid (T0.out.trans (bl1.mono T0.out.size)); have hX1 := HX.out.over bl1 HX.out.inHeap; have y3 := hX1.read 3; have y4 := hX1.read 4; have y5 := hX1.read 5; simp only [List.getElem?_toArray, List.getElem?_cons_zero, List.getElem?_cons_succ] at y3 y4 y5; clear hX1 bl1 hC1 hb1; have HM := Lib.hid fun W => new_at v2 g2 W))
    go_ret
    exact ⟨rfl, T3.out⟩
end
end Go.Proofs.Ytgicehhenahfpaa
