/- Claims. -/
import Derived.Test.YtlgefljbhbefgaaDoorE
import Derived.Test.YtlgefljbhbefgaaDoorHp
set_option linter.unusedVariables false
set_option linter.unusedSimpArgs false
namespace Go.Proofs.YtlgefljbhbefgaaDoor
open Go.RowKit
attribute [local go_sem] Oper.semAt_some
section
variable {w : World} {P : Nat} {s : PS}
set_option maxHeartbeats 4000000 in
theorem claim_any (h : Box w P 58 (plc s)) (ok : s.ok) (c : Nat) (hc : c < 2) : Calls Tryd.prog 47 #[plc2 P c] w fun e w' => e = .returned (.int .u64 (s.best c)) ∧ Box w' P 58 (plc (s.claim c)) ∧ Only P w w' := by
  have HX := Lib.hid (Box.made w 78 #[.pointer (some ⟨P, 0, none⟩), .int .i64 c])
  have HB := Lib.hid h
  have T0 : Hid (Below w.heap.size w (w.alloc (.cells #[.pointer (some ⟨P, 0, none⟩), .int .i64 c] 78))) := Lib.hid ((Below.refl _ _).alloc (Nat.le_refl _) _)
  have X0 := Lib.hid (Below.refl (w.alloc (.cells #[.pointer (some ⟨P, 0, none⟩), .int .i64 c] 78)).heap.size (w.alloc (.cells #[.pointer (some ⟨P, 0, none⟩), .int .i64 c] 78)))
  have n0 : (0 : Int) ≤ (c : Int) := Int.natCast_nonneg _
  have n1 : (c : Int) < 2 := by omega
  have hen := ok.en c
  have HPR := Lib.hid ok.pr
  have LC : Hid (∀ W, Below w.heap.size w W → Box W w.heap.size 78 #[.pointer (some ⟨P, 0, none⟩), .int .i64 c] → W.cell? ⟨w.heap.size, 0, none⟩ = some (.pointer (some ⟨P, 0, none⟩)) ∧ W.cell? ⟨w.heap.size, 1, none⟩ = some (.int .i64 c) ∧ W.cell? ⟨P, 33 + c * 2, none⟩ = some (.int .u8 (s.en c)) ∧ W.cell? ⟨P, 33 + c * 2 + 1, none⟩ = some (.int .u8 (s.th c))) := Lib.hid fun W hW hX => ⟨hX.read 0, hX.read 1, ((HB.out.over hW HB.out.inHeap).read _).trans (en_at s c hc), ((HB.out.over hW HB.out.inHeap).read _).trans (th_at s c hc)⟩
  clear h ok
  go_enter Tryd.func47, Tryd.ntmps47
  go_wp2
  refine wp_region_calm (fun W => W.cell? ⟨w.heap.size, 0, none⟩ = some (.pointer (some ⟨P, 0, none⟩)) ∧ W.cell? ⟨w.heap.size, 1, none⟩ = some (.int .i64 c) ∧ W.cell? ⟨P, 33 + c * 2, none⟩ = some (.int .u8 (s.en c)) ∧ W.cell? ⟨P, 33 + c * 2 + 1, none⟩ = some (.int .u8 (s.th c)))
    (.e 0 :: .e 0 :: .e 0 :: .e 0 :: .e 0 :: .e 0 :: .e 0 :: .e 0 :: .e 0 :: .e 0 :: .l 0 :: .e 0 :: []) (by kernel_rfl) (by kernel_rfl) (by kernel_rfl) (by kernel_rfl) ?_
  have T1 : Hid (Below w.heap.size w (w.alloc (.cells #[.pointer (some ⟨P, 0, none⟩), .int .i64 c] 78)).drew) := Lib.hid T0.out.drew
  have X1 := Lib.hid HX.out.drawn1
  have hHeld := LC.out _ T1.out X1.out
  repeat (refine mv_take0 (v := ?_) (by rfl) hHeld ?_ ?_; rotate_left 1; (focus (intro w hSw; (try dsimp only at hSw); obtain ⟨hs0, hs1, hs2, hs3⟩ := hSw; go_simp; (try with_reducible rfl); done)); (try simp only [Act.put, List.setIfInBounds_toArray, List.set_cons_zero, List.set_cons_succ]))
  refine mv_loud0 (by rfl) (fun K2 hK => ?_)
  go_simp
  go_at_call 28
  refine (best_any (HB.out.over T1.out HB.out.inHeap) c _ _ rfl hen HPR.out).mono ?_
  rintro e w2 ⟨rfl, hz⟩
  have T2 := Lib.hid (T1.out.trans (hz.mono T1.out.size))
  have X2 := Lib.hid (X1.out.over hz X1.out.inHeap)
  clear hz hHeld
  have hHeld := LC.out _ T2.out X2.out
  refine hK.out _ _ hHeld ?_
  clear hK K2
  (try simp only [Act.put, List.setIfInBounds_toArray, List.set_cons_zero, List.set_cons_succ])
  repeat (refine mv_take0 (v := ?_) (by rfl) hHeld ?_ ?_; rotate_left 1; (focus (intro w hSw; (try dsimp only at hSw); obtain ⟨hs0, hs1, hs2, hs3⟩ := hSw; go_simp; (try with_reducible rfl); done)); (try simp only [Act.put, List.setIfInBounds_toArray, List.set_cons_zero, List.set_cons_succ]))
  refine mv_calm ?_
  have hb8 := s.best_lt c
  have H2 := Lib.hid (HB.out.over T2.out HB.out.inHeap)
  have O2 : Hid (Only P w w2) := Lib.hid (Only.ofBelow T2.out)
  obtain ⟨x0, x1, -, -⟩ := hHeld
  by_cases hb : s.best c = 0
  · have HC : Hid (s.claim c = s) := Lib.hid (by rw [PS.claim, if_pos hb])
    have HBE := Lib.hid hb
    rw [hb]
    clear hb hb8
    go_wp2
    go_ret
    exact ⟨by rw [HBE.out]; rfl, by rw [HC.out]; exact H2.out, O2.out⟩
  · have HC : Hid (s.claim c = { s with pe := upd s.pe (s.best c) false, se := upd s.se (s.best c) true }) := Lib.hid (by rw [PS.claim, if_neg hb])
    generalize hbe : s.best c = b at hb hb8 HC ⊢
    have HBE := Lib.hid hbe
    clear hbe
    have b0 : (0 : Int) < (b : Int) := by omega
    have b8 : (b : Int) < 8 := by omega
    have hw : IntKind.u64.wrap (b : Int) = (b : Int) := by rw [IntKind.wrap_u64]; omega
    have c2 : w2.cell? ⟨P, 1 + b * 4 + 2, none⟩ = some (.bool (s.pe b)) := (H2.out.read _).trans (pe_at s b hb8)
    have f2 := H2.out.warm (1 + b * 4 + 2)
    have hp1 := H2.out.put (1 + b * 4 + 2) (.bool false)
    have c3 : (w2.setCell ⟨P, 1 + b * 4 + 2, none⟩ (.bool false)).cell? ⟨P, 1 + b * 4 + 3, none⟩ = some (.bool (s.se b)) := by
      rw [pe_put s false b hb8] at hp1
      exact (hp1.read _).trans (se_at _ b hb8)
    have f3 := hp1.warm (1 + b * 4 + 3)
    have hp2 := hp1.put (1 + b * 4 + 3) (.bool true)
    rw [pe_put s false b hb8, se_put _ true b hb8] at hp2
    have HP := Lib.hid hp2
    have HO := Lib.hid ((O2.out.put (p := ⟨P, 1 + b * 4 + 2, none⟩) (.inl rfl) (.bool false)).put (p := ⟨P, 1 + b * 4 + 3, none⟩) (.inl rfl) (.bool true))
    clear hp1 hp2 hb
    go_wp2
    go_ret
    exact ⟨by rw [HBE.out]; rfl, by rw [HC.out]; exact HP.out, HO.out⟩
end
end Go.Proofs.YtlgefljbhbefgaaDoor
