/- The best source of a context. -/
import Derived.Test.YtlgefljbhbefgaaDoorC
import Derived.WalkSmall
import Derived.Deep.MidRow
set_option linter.unusedVariables false
set_option linter.unusedSimpArgs false
namespace Go.Proofs.YtlgefljbhbefgaaDoor
open Go.RowKit
attribute [local go_sem] Oper.semAt_some
/-- The cells of all sources. -/
def srcL (s : PS) : List Value := [.int .u8 (s.pr 0), .bool (s.hi 0), .bool (s.pe 0), .bool (s.se 0), .int .u8 (s.pr 1), .bool (s.hi 1), .bool (s.pe 1), .bool (s.se 1), .int .u8 (s.pr 2), .bool (s.hi 2), .bool (s.pe 2), .bool (s.se 2), .int .u8 (s.pr 3), .bool (s.hi 3), .bool (s.pe 3), .bool (s.se 3), .int .u8 (s.pr 4), .bool (s.hi 4), .bool (s.pe 4), .bool (s.se 4), .int .u8 (s.pr 5), .bool (s.hi 5), .bool (s.pe 5), .bool (s.se 5), .int .u8 (s.pr 6), .bool (s.hi 6), .bool (s.pe 6), .bool (s.se 6), .int .u8 (s.pr 7), .bool (s.hi 7), .bool (s.pe 7), .bool (s.se 7)]
theorem plc_eq (s : PS) : plc s = (.bool true :: (srcL s ++ [.int .u8 (s.en 0), .int .u8 (s.th 0), .int .u8 (s.en 1), .int .u8 (s.th 1)])).toArray := rfl
theorem srcs_range {w : World} {P : Nat} {s : PS} (h : Box w P 58 (plc s)) : w.rangeAt P 1 (srcL s) := fun j v hj => by
  rw [h.read (1 + j), plc_eq, List.getElem?_toArray, Nat.add_comm 1 j, List.getElem?_cons_succ, List.getElem?_append_left (List.getElem?_eq_some_iff.1 hj).1]
  exact hj
theorem below_drawn {B : Nat} {a w : World} (h : Below B a w) (n : Nat) : Below B a (w.drewN n) := ⟨h.os, h.tape, h.output, h.size, h.block⟩
theorem src_at (s : PS) (w : World) : ∀ k : Nat, k < 8 → (Instr.index 53 (.agg (srcL s).toArray) (.int .i64 k)).run Tryd.prog w = .ok (.agg #[.int .u8 (s.pr k), .bool (s.hi k), .bool (s.pe k), .bool (s.se k)]) w
  | 0, _ => by simp [Instr.index, go_sem, srcL]
  | 1, _ => by simp [Instr.index, go_sem, srcL]
  | 2, _ => by simp [Instr.index, go_sem, srcL]
  | 3, _ => by simp [Instr.index, go_sem, srcL]
  | 4, _ => by simp [Instr.index, go_sem, srcL]
  | 5, _ => by simp [Instr.index, go_sem, srcL]
  | 6, _ => by simp [Instr.index, go_sem, srcL]
  | 7, _ => by simp [Instr.index, go_sem, srcL]
  | k + 8, h => absurd h (by omega)
theorem bit_on : ∀ n : Nat, n < 256 → ∀ k : Nat, k < 8 → (bits .and .u8 ((n : Int) / 2 ^ k) 1 != 0) = decide (n / 2 ^ k % 2 = 1) := by decide +kernel
section
variable {w : World} {P : Nat} {s : PS}
set_option maxHeartbeats 4000000 in
theorem best_any (h : Box w P 58 (plc s)) (c : Nat) (en th : Int) (hen : en = s.en c) (hlt : s.en c < 256) (hpr : ∀ i, s.pr i < 8) : Calls Tryd.prog 28 #[.pointer (some ⟨P, 0, none⟩), .agg #[.int .u8 en, .int .u8 th]] w fun e w' => e = .returned (.int .i64 (s.best c)) ∧ Below w.heap.size w w' := by
  subst hen
  have HB := Lib.hid h
  have HX := Lib.hid (Box.made w 55 #[.int .u8 (s.en c), .int .u8 th])
  have T0 : Hid (Below w.heap.size w (w.alloc (.cells #[.int .u8 (s.en c), .int .u8 th] 55))) := Lib.hid ((Below.refl _ _).alloc (Nat.le_refl _) _)
  go_enter Tryd.func28, Tryd.ntmps28
  go_wp2_with (refine wpList_load_mid rfl 53 _ rfl P 1 rfl (srcL s) _ (srcs_range (HB.out.more _)) Tryd.underlying53 rfl rfl ?_)
  generalize (w.alloc (.cells #[.int .u8 (s.en c), .int .u8 th] 55)) = w1 at T0 HX ⊢
  go_loopw [5, 12] (fun b i wr => ∃ k : Nat, k ≤ 8 ∧ b = .int .i64 (bst (s.q c) s.pr k) ∧ i = .int .i64 k ∧ Below w1.heap.size w1 wr) (fun _ i _ => 8 - (intOf i).toNat)
  case atStart => exact ⟨0, Nat.zero_le _, rfl, rfl, Below.refl _ _⟩
  case round =>
    obtain ⟨k, hk, rfl, rfl, hb⟩ := hrel
    have k1 : (0 : Int) ≤ (k : Int) := Int.natCast_nonneg _
    have hbl : bst (s.q c) s.pr k ≤ k - 1 := bst_lt k
    by_cases h8 : k < 8
    · have k2 : (k : Int) < 8 := by omega
      have hix := src_at s wr k h8
      have T1 := Lib.hid (T0.out.trans (hb.mono T0.out.size))
      generalize hbe : bst (s.q c) s.pr k = b at hbl
      have HBE := Lib.hid hbe
      clear hbe
      have hXr := HX.out.over hb HX.out.inHeap
      have hPr := HB.out.over T1.out HB.out.inHeap
      have hN := Box.made wr 52 #[.int .u8 (s.pr k), .bool (s.hi k), .bool (s.pe k), .bool (s.se k)]
      have e0 : ∀ j, ((wr.alloc (.cells #[.int .u8 (s.pr k), .bool (s.hi k), .bool (s.pe k), .bool (s.se k)] 52)).drewN j).cell? ⟨wr.heap.size, 0, none⟩ = some (.int .u8 (s.pr k)) := fun j => (hN.drawn j).read 0
      have e2 : ∀ j, ((wr.alloc (.cells #[.int .u8 (s.pr k), .bool (s.hi k), .bool (s.pe k), .bool (s.se k)] 52)).drewN j).cell? ⟨wr.heap.size, 2, none⟩ = some (.bool (s.pe k)) := fun j => (hN.drawn j).read 2
      have f0 : ∀ j, ((wr.alloc (.cells #[.int .u8 (s.pr k), .bool (s.hi k), .bool (s.pe k), .bool (s.se k)] 52)).drewN j).cell? ⟨w.heap.size, 0, none⟩ = some (.int .u8 (s.en c)) := fun j => ((hXr.more _).drawn j).read 0
      have g0 : ∀ j, ((wr.alloc (.cells #[.int .u8 (s.pr k), .bool (s.hi k), .bool (s.pe k), .bool (s.se k)] 52)).drewN j).cell? ⟨P, 1 + b * 4, none⟩ = some (.int .u8 (s.pr b)) := fun j => (((hPr.more _).drawn j).read _).trans (pr_at s b (by omega))
      have T2 := Lib.hid (hb.alloc hb.size (.cells #[.int .u8 (s.pr k), .bool (s.hi k), .bool (s.pe k), .bool (s.se k)] 52))
      have HBB := Lib.hid hb
      have hb8 : b < 8 := by omega
      clear hXr hPr hN hb
      go_wp2
      generalize (wr.alloc (.cells #[.int .u8 (s.pr k), .bool (s.hi k), .bool (s.pe k), .bool (s.se k)] 52)) = w2 at e0 e2 f0 g0 T2 ⊢
      have hbit : (bits .and .u8 ((s.en c : Int) / 2 ^ k) 1 != 0) = s.on c k := bit_on _ hlt k h8
      have hst : bst (s.q c) s.pr (k + 1) = if s.q c k = true ∧ s.pr b < s.pr k then k else b := by rw [bst, HBE.out]
      have hqk : s.q c k = (s.pe k && s.on c k) := rfl
      rw [hqk] at hst
      clear hqk
      generalize s.on c k = bt at hbit hst
      generalize s.pe k = pk at e2 hix hst ⊢
      have HST := Lib.hid hst
      clear hst hix
      by_cases hcm : s.pr b < s.pr k
      · have hcm' : (s.pr b : Int) < (s.pr k : Int) := by omega
        cases pk <;> cases bt
        all_goals
          go_quiet (fail)
          go_wp2
          go_roundw
          case rel => exact ⟨k + 1, by omega, by rw [HST.out]; simp [hcm], by go_num, below_drawn T2.out _⟩
          case measure => simp [intOf]; omega
      · have hcm' : ¬ (s.pr b : Int) < (s.pr k : Int) := by omega
        cases pk <;> cases bt
        all_goals
          go_quiet (fail)
          go_wp2
          go_roundw
          case rel => exact ⟨k + 1, by omega, by rw [HST.out]; simp [hcm], by go_num, below_drawn T2.out _⟩
          case measure => simp [intOf]; omega
    · obtain rfl : k = 8 := by omega
      have TE := Lib.hid (T0.out.trans (hb.mono T0.out.size))
      clear hb hbl h8
      go_wp2
      go_ret
      exact ⟨rfl, TE.out⟩
end
end Go.Proofs.YtlgefljbhbefgaaDoor
