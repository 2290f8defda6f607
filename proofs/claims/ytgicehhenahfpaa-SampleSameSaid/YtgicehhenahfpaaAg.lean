/- Same of the document, of channels of one shape. -/
import Derived.Test.YtgicehhenahfpaaAb
import Derived.Test.YtgicehhenahfpaaHp
set_option linter.unusedVariables false
set_option linter.unusedSimpArgs false
namespace Go.Proofs.Ytgicehhenahfpaa
open Go.RowKit
attribute [local go_sem] Oper.semAt_some
theorem st_eql {a b : List UInt8} : ((st a).toList == (st b).toList) = decide (a = b) := by
  rw [ByteArray.toList_eq, ByteArray.toList_eq]
  show (a == b) = decide (a = b)
  by_cases h : a = b
  · rw [decide_eq_true h]; exact beq_iff_eq.2 h
  · rw [decide_eq_false h]; exact beq_eq_false_iff_ne.2 h
section
variable {m v : Int} {n : Nat} {B C H H' c c' : Nat} {w : World} {o o' : Option (Nat × ByteArray × List Int)}
set_option maxHeartbeats 8000000 in
set_option maxRecDepth 100000 in
theorem dsame_eq (h : Dc w B H m v n c o) (h' : Dc w C H' m v n c' o') (hc : c ≤ 1048576) (hc' : c' ≤ 1048576) (hn : n ≤ 16) (ho : okO o) (ho' : okO o') :
    Calls Try.prog 12 #[.pointer (some ⟨B, 0, none⟩), .pointer (some ⟨C, 0, none⟩)] w fun e w' => e = .returned (.bool (decide (tellL n o = tellL n o'))) ∧ Below w.heap.size w w' := by
  have HA := Lib.hid fun (W : World) (hb : Below w.heap.size w W) => dtext_any (h.below hb) hc hn ho
  have HB := Lib.hid fun (W : World) (hb : Below w.heap.size w W) => dtext_any (h'.below hb) hc' hn ho'
  have LC : Hid (∀ W, Below w.heap.size w W → W.cell? ⟨B, 0, none⟩ = some (.int .i64 m) ∧ W.cell? ⟨B, 1, none⟩ = some (.int .u32 v) ∧ W.cell? ⟨B, 2, none⟩ = some (.int .i64 n) ∧ W.cell? ⟨C, 0, none⟩ = some (.int .i64 m) ∧ W.cell? ⟨C, 1, none⟩ = some (.int .u32 v) ∧ W.cell? ⟨C, 2, none⟩ = some (.int .i64 n)) := Lib.hid fun W hb => by
    obtain ⟨sl, k⟩ := (h.below hb).cells
    obtain ⟨sl', k'⟩ := (h'.below hb).cells
    exact ⟨k.read 0, k.read 1, k.read 2, k'.read 0, k'.read 1, k'.read 2⟩
  have e1 : (m == m) = true := by simp
  have e2 : (v == v) = true := by simp
  have e3 : ((n : Int) == (n : Int)) = true := by simp
  have T0 : Hid (Below w.heap.size w w.drew) := Lib.hid (below_drawn (Below.refl _ _) 1)
  have hHeld := LC.out _ T0.out
  clear h h' hc hc' hn ho ho'
  go_enter Try.func12, Try.ntmps12
  go_wp2_with fail
  refine wp_region_calm (fun w' => w'.cell? ⟨B, 0, none⟩ = some (.int .i64 m) ∧ w'.cell? ⟨B, 1, none⟩ = some (.int .u32 v) ∧ w'.cell? ⟨B, 2, none⟩ = some (.int .i64 n) ∧ w'.cell? ⟨C, 0, none⟩ = some (.int .i64 m) ∧ w'.cell? ⟨C, 1, none⟩ = some (.int .u32 v) ∧ w'.cell? ⟨C, 2, none⟩ = some (.int .i64 n))
    (.e 0 :: .e 0 :: .e 0 :: .e 0 :: .e 0 :: .e 0 :: .e 0 :: .e 0 :: .e 0 :: .e 0 :: .e 0 :: .e 0 :: .e 0 :: .e 0 :: .e 0 :: .e 0 :: .e 0 :: .e 0 :: .e 0 :: .e 0 :: .e 0 :: .e 0 :: .e 0 :: .e 0 :: .e 0 :: .e 0 :: .e 0 :: .e 0 :: .e 0 :: .e 0 :: .e 0 :: .e 0 :: .e 0 :: .e 1 :: .l 0 :: .l 0 :: .e 0 :: .e 0 :: .e 0 :: []) (by kernel_rfl) (by kernel_rfl) (by kernel_rfl) (by kernel_rfl) ?_
  repeat (first
    | (refine mv_take0 (v := ?_) (by rfl) hHeld ?_ ?_; rotate_left 1; (focus (intro w hSw; (try dsimp only at hSw); obtain ⟨a0, a1, a2, b0, b1, b2⟩ := hSw; go_simp; (try with_reducible rfl))); (try simp only [Act.put, List.setIfInBounds_toArray, List.set_cons_zero, List.set_cons_succ]))
    | (refine mv_take1 (v := ?_) (by rfl) hHeld ?_ ?_; rotate_left 1; (focus (intro w hSw; (try dsimp only at hSw); obtain ⟨a0, a1, a2, b0, b1, b2⟩ := hSw; go_simp; (try with_reducible rfl))); (try simp only [Act.put, List.setIfInBounds_toArray, List.set_cons_zero, List.set_cons_succ]))
    | (refine mv_loud0 (by rfl) (fun K hK => ?_)
       go_simp
       first
         | (go_at_call 22; refine (HB.out _ T1.out).mono ?_; rintro e w5 ⟨rfl, hz⟩; have T2 := Lib.hid (T1.out.trans (hz.mono T1.out.size)); clear hz; refine hK.out _ _ (LC.out _ T2.out) ?_; clear hHeld; have hHeld := LC.out _ T2.out)
         | (go_at_call 22; refine (HA.out _ T0.out).mono ?_; rintro e w4 ⟨rfl, hz⟩; have T1 := Lib.hid (T0.out.trans (hz.mono T0.out.size)); clear hz; refine hK.out _ _ (LC.out _ T1.out) ?_; clear hHeld; have hHeld := LC.out _ T1.out)
       clear hK K
       (try simp only [Act.put, List.setIfInBounds_toArray, List.set_cons_zero, List.set_cons_succ])))
  refine mv_calm ?_
  go_wp2
  go_ret
  exact ⟨bool_eq st_eql, T2.out⟩
end
end Go.Proofs.Ytgicehhenahfpaa
