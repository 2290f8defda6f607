/- What is pending; which contexts call. -/
import Derived.Test.YtlgefljbhbefgaaDoorF
import Derived.Test.YtlgefljbhbefgaaDoorG
set_option linter.unusedVariables false
set_option linter.unusedSimpArgs false
namespace Go.Proofs.YtlgefljbhbefgaaDoor
open Go.RowKit
attribute [local go_sem] Oper.semAt_some
theorem or_bit : ∀ k : Nat, k < 8 → ∀ b : Nat, b < 2 ^ k → bits .or .u64 (b : Int) (IntKind.u64.wrap (2 ^ k)) = ((b + 2 ^ k : Nat) : Int) := by decide +kernel
section
variable {w : World} {P : Nat} {s : PS}
set_option maxHeartbeats 4000000 in
theorem pending_any (h : Box w P 58 (plc s)) (n : Int) : Calls Tryd.prog 49 #[plc2 P n] w fun e w' => e = .returned (.int .u64 (bitsN s.pe 8)) ∧ Below w.heap.size w w' := by
  have HX := Lib.hid (Box.made w 78 #[.pointer (some ⟨P, 0, none⟩), .int .i64 n])
  have x0 : (w.alloc (.cells #[.pointer (some ⟨P, 0, none⟩), .int .i64 n] 78)).cell? ⟨w.heap.size, 0, none⟩ = some (.pointer (some ⟨P, 0, none⟩)) := HX.out.read 0
  have HB := Lib.hid (h.more (.cells #[.pointer (some ⟨P, 0, none⟩), .int .i64 n] 78))
  have T0 : Hid (Below w.heap.size w (w.alloc (.cells #[.pointer (some ⟨P, 0, none⟩), .int .i64 n] 78))) := Lib.hid ((Below.refl _ _).alloc (Nat.le_refl _) _)
  clear h
  go_enter Tryd.func49, Tryd.ntmps49
  go_wp2_with (refine wpList_load_mid rfl 53 _ rfl P 1 rfl (srcL s) _ (srcs_range HB.out) Tryd.underlying53 rfl rfl ?_)
  generalize (w.alloc (.cells #[.pointer (some ⟨P, 0, none⟩), .int .i64 n] 78)) = w1 at T0 HX HB x0 ⊢
  go_loopw [3, 11] (fun b i wr => ∃ k : Nat, k ≤ 8 ∧ b = .int .u64 (bitsN s.pe k) ∧ i = .int .i64 k ∧ Below w1.heap.size w1 wr) (fun _ i _ => 8 - (intOf i).toNat)
  case atStart => exact ⟨0, Nat.zero_le _, rfl, rfl, Below.refl _ _⟩
  case round =>
    obtain ⟨k, hk, rfl, rfl, hb⟩ := hrel
    have k1 : (0 : Int) ≤ (k : Int) := Int.natCast_nonneg _
    by_cases h8 : k < 8
    · have k2 : (k : Int) < 8 := by omega
      have hix := src_at s wr k h8
      have hlt := bitsN_lt s.pe k
      have hst : bitsN s.pe (k + 1) = bitsN s.pe k + if s.pe k then 2 ^ k else 0 := rfl
      have T2 := Lib.hid (hb.alloc hb.size (.cells #[.int .u8 (s.pr k), .bool (s.hi k), .bool (s.pe k), .bool (s.se k)] 52))
      have e2 : (wr.alloc (.cells #[.int .u8 (s.pr k), .bool (s.hi k), .bool (s.pe k), .bool (s.se k)] 52)).cell? ⟨wr.heap.size, 2, none⟩ = some (.bool (s.pe k)) := (Box.made wr 52 _).read 2
      generalize bitsN s.pe k = bn at hlt hst ⊢
      have HST := Lib.hid hst
      have HLT := Lib.hid hlt
      clear hb hst hlt
      generalize s.pe k = pk at hix e2 T2 HST
      cases pk
      · go_wp2
        go_roundw
        case rel => exact ⟨k + 1, by omega, by rw [HST.out]; simp, by go_num, T2.out⟩
        case measure => simp [intOf]; omega
      · go_wp2
        go_roundw
        case rel => exact ⟨k + 1, by omega, by rw [HST.out, or_bit k h8 bn HLT.out]; rfl, by go_num, T2.out⟩
        case measure => simp [intOf]; omega
    · obtain rfl : k = 8 := by omega
      have TE := Lib.hid (T0.out.trans (hb.mono T0.out.size))
      clear hb h8
      go_wp2
      go_ret
      exact ⟨rfl, TE.out⟩
/-- Does a context call? -/
def PS.calls (s : PS) (c : Nat) : Bool := decide (s.th c < s.pr (s.best c))
set_option maxHeartbeats 4000000 in
theorem calls_any (h : Box w P 58 (plc s)) (ok : s.ok) (c : Nat) (hc : c < 2) : Calls Tryd.prog 12 #[.pointer (some ⟨P, 0, none⟩), .int .i64 c] w fun e w' => e = .returned (.bool (s.calls c)) ∧ Below w.heap.size w w' := by
  have HB := Lib.hid h
  have n0 : (0 : Int) ≤ (c : Int) := Int.natCast_nonneg _
  have n1 : (c : Int) < 2 := by omega
  have hen := ok.en c
  have HPR := Lib.hid ok.pr
  have HM := Lib.hid (isMade_any h)
  have ce : w.cell? ⟨P, 33 + c * 2, none⟩ = some (.int .u8 (s.en c)) := (h.read _).trans (en_at s c hc)
  have ct : w.cell? ⟨P, 33 + c * 2 + 1, none⟩ = some (.int .u8 (s.th c)) := (h.read _).trans (th_at s c hc)
  have T0 : Hid (Below w.heap.size w (w.alloc (.cells #[.int .u8 (s.en c), .int .u8 (s.th c)] 55))) := Lib.hid ((Below.refl _ _).alloc (Nat.le_refl _) _)
  have HX := Lib.hid (Box.made w 55 #[.int .u8 (s.en c), .int .u8 (s.th c)])
  have hb8 := s.best_lt c
  have b0 : (0 : Int) ≤ (s.best c : Int) := Int.natCast_nonneg _
  have b8 : (s.best c : Int) < 8 := by omega
  have LC : Hid (∀ W, Below w.heap.size w W → Box W w.heap.size 55 #[.int .u8 (s.en c), .int .u8 (s.th c)] → W.cell? ⟨w.heap.size, 0, none⟩ = some (.int .u8 (s.en c)) ∧ W.cell? ⟨w.heap.size, 1, none⟩ = some (.int .u8 (s.th c)) ∧ W.cell? ⟨P, 1 + s.best c * 4, none⟩ = some (.int .u8 (s.pr (s.best c)))) := Lib.hid fun W hW hX => ⟨hX.read 0, hX.read 1, ((HB.out.over hW HB.out.inHeap).read _).trans (pr_at s _ hb8)⟩
  clear h ok
  go_enter Tryd.func12, Tryd.ntmps12
  go_wp2_with (go_at_call 22; refine HM.out.mono ?_; rintro e w' ⟨rfl, rfl⟩)
  refine wp_region_calm (fun W => W.cell? ⟨w.heap.size, 0, none⟩ = some (.int .u8 (s.en c)) ∧ W.cell? ⟨w.heap.size, 1, none⟩ = some (.int .u8 (s.th c)) ∧ W.cell? ⟨P, 1 + s.best c * 4, none⟩ = some (.int .u8 (s.pr (s.best c))))
    (.e 0 :: .e 0 :: .e 0 :: .e 1 :: .e 1 :: .e 4 :: .e 4 :: .l 0 :: .e 0 :: .e 0 :: .e 0 :: .e 0 :: .e 0 :: []) (by kernel_rfl) (by kernel_rfl) (by kernel_rfl) (by kernel_rfl) ?_
  have T1 : Hid (Below w.heap.size w (w.alloc (.cells #[.int .u8 (s.en c), .int .u8 (s.th c)] 55)).drew) := Lib.hid T0.out.drew
  have X1 := Lib.hid HX.out.drawn1
  have hHeld := LC.out _ T1.out X1.out
  repeat (first
    | (refine mv_take0 (v := ?_) (by rfl) hHeld ?_ ?_; rotate_left 1; (focus (intro w hSw; (try dsimp only at hSw); obtain ⟨hs0, hs1, hs2⟩ := hSw; go_simp; (try with_reducible rfl); done)); (try simp only [Act.put, List.setIfInBounds_toArray, List.set_cons_zero, List.set_cons_succ]))
    | (refine mv_take1 (v := ?_) (by rfl) hHeld ?_ ?_; rotate_left 1; (focus (intro w hSw; (try dsimp only at hSw); obtain ⟨hs0, hs1, hs2⟩ := hSw; go_simp; (try with_reducible rfl); done)); (try simp only [Act.put, List.setIfInBounds_toArray, List.set_cons_zero, List.set_cons_succ]))
    | (refine mv_take2 (v := ?_) (by rfl) hHeld ?_ ?_; rotate_left 1; (focus (intro w hSw; (try dsimp only at hSw); obtain ⟨hs0, hs1, hs2⟩ := hSw; go_simp; (try with_reducible rfl); done)); (try simp only [Act.put, List.setIfInBounds_toArray, List.set_cons_zero, List.set_cons_succ]))
    | (refine mv_take4 (v := ?_) (by rfl) hHeld ?_ ?_; rotate_left 1; (focus (intro w hSw; (try dsimp only at hSw); obtain ⟨hs0, hs1, hs2⟩ := hSw; go_simp; (try with_reducible rfl); done)); (try simp only [Act.put, List.setIfInBounds_toArray, List.set_cons_zero, List.set_cons_succ])))
  refine mv_loud0 (by rfl) (fun K2 hK => ?_)
  go_simp
  go_at_call 28
  refine (best_any (HB.out.over T1.out HB.out.inHeap) c _ _ rfl hen HPR.out).mono ?_
  rintro e w2 ⟨rfl, hz⟩
  have T2 := Lib.hid (T1.out.trans (hz.mono T1.out.size))
  have X2 := Lib.hid (X1.out.over hz X1.out.inHeap)
  clear hz hHeld
  have hHeld := LC.out _ T2.out X2.out
  refine hK.out _ _ hHeld ?_
  clear hK K2
  (try simp only [Act.put, List.setIfInBounds_toArray, List.set_cons_zero, List.set_cons_succ])
  repeat (first
    | (refine mv_take0 (v := ?_) (by rfl) hHeld ?_ ?_; rotate_left 1; (focus (intro w hSw; (try dsimp only at hSw); obtain ⟨hs0, hs1, hs2⟩ := hSw; go_simp; (try with_reducible rfl); done)); (try simp only [Act.put, List.setIfInBounds_toArray, List.set_cons_zero, List.set_cons_succ]))
    | (refine mv_take1 (v := ?_) (by rfl) hHeld ?_ ?_; rotate_left 1; (focus (intro w hSw; (try dsimp only at hSw); obtain ⟨hs0, hs1, hs2⟩ := hSw; go_simp; (try with_reducible rfl); done)); (try simp only [Act.put, List.setIfInBounds_toArray, List.set_cons_zero, List.set_cons_succ]))
    | (refine mv_take2 (v := ?_) (by rfl) hHeld ?_ ?_; rotate_left 1; (focus (intro w hSw; (try dsimp only at hSw); obtain ⟨hs0, hs1, hs2⟩ := hSw; go_simp; (try with_reducible rfl); done)); (try simp only [Act.put, List.setIfInBounds_toArray, List.set_cons_zero, List.set_cons_succ]))
    | (refine mv_take4 (v := ?_) (by rfl) hHeld ?_ ?_; rotate_left 1; (focus (intro w hSw; (try dsimp only at hSw); obtain ⟨hs0, hs1, hs2⟩ := hSw; go_simp; (try with_reducible rfl); done)); (try simp only [Act.put, List.setIfInBounds_toArray, List.set_cons_zero, List.set_cons_succ])))
  refine mv_calm ?_
  go_wp2
  go_ret
  refine ⟨bool_eq ?_, T2.out⟩
  unfold PS.calls
  by_cases hh : s.th c < s.pr (s.best c)
  · simp [hh]
  · simp [hh]
end
end Go.Proofs.YtlgefljbhbefgaaDoor
