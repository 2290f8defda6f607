/- The program's Text. -/
import Derived.Test.YtlgefljbhbefgaaDoorPb
import Derived.Test.YtlgefljbhbefgaaDoorHp
set_option linter.unusedVariables false
set_option linter.unusedSimpArgs false
namespace Go.Proofs.YtlgefljbhbefgaaDoor
open Go.RowKit
attribute [local go_sem] Oper.semAt_some
theorem mark_to (b : Bool) (c : UInt8) (w : World) : Calls Tryd.prog 31 #[.bool b, .string ⟨#[c]⟩] w fun e w' => e = .returned (.string (st (mk b c))) ∧ w' = w := by
  refine (mark_any b ⟨#[c]⟩ w).mono ?_
  rintro e w' ⟨rfl, rfl⟩
  refine ⟨?_, rfl⟩
  cases b <;> rfl
theorem itoa_to (n : Nat) (h : n < 8) (w : World) : Calls Tryd.prog 30 #[.int .i64 n] w fun e w' => e = .returned (.string (st [hx n])) ∧ w' = w := by
  have := itoa_small n (by omega) w
  rw [dig_hx n h] at this
  exact this
theorem mk_len (b : Bool) (c : UInt8) : (mk b c).length ≤ 1 := by cases b <;> simp [mk]
theorem src_range {w : World} {P : Nat} {s : PS} (h : Box w P 58 (plc s)) (n : Nat) (hn : n < 8) : w.rangeAt P (1 + n * 4) [.int .u8 (s.pr n), .bool (s.hi n), .bool (s.pe n), .bool (s.se n)] := fun j v hj => by
  rw [h.read]
  rcases j with _ | _ | _ | _ | j
  · cases hj; exact pr_at s n hn
  · cases hj; exact hi_at s n hn
  · cases hj; exact pe_at s n hn
  · cases hj; exact se_at s n hn
  · cases hj
theorem con_range {w : World} {P : Nat} {s : PS} (h : Box w P 58 (plc s)) : w.rangeAt P 33 [.int .u8 (s.en 0), .int .u8 (s.th 0), .int .u8 (s.en 1), .int .u8 (s.th 1)] := fun j v hj => by
  rw [h.read]
  rcases j with _ | _ | _ | _ | j
  · exact hj
  · exact hj
  · exact hj
  · exact hj
  · cases hj
theorem con_at (s : PS) (w : World) : ∀ k : Nat, k < 2 → (Instr.index 56 (.agg #[.int .u8 (s.en 0), .int .u8 (s.th 0), .int .u8 (s.en 1), .int .u8 (s.th 1)]) (.int .i64 k)).run Tryd.prog w = .ok (.agg #[.int .u8 (s.en k), .int .u8 (s.th k)]) w
  | 0, _ => by simp [Instr.index, go_sem]
  | 1, _ => by simp [Instr.index, go_sem]
  | k + 2, h => absurd h (by omega)
/-- The first contexts' words, behind all sources'. -/
def ctxs (s : PS) : Nat → List UInt8
  | 0 => srcsL s 7
  | 1 => srcsL s 7 ++ ctxL s 0
  | _ => textL s
theorem ctxs_len (s : PS) (k : Nat) : (ctxs s k).length ≤ 44 := by
  have := srcsL_len s 7
  rcases k with _ | _ | k
  · show (srcsL s 7).length ≤ 44
    omega
  · show (srcsL s 7 ++ ctxL s 0).length ≤ 44
    rw [List.length_append]
    have : (ctxL s 0).length = 4 := rfl
    omega
  · exact textL_len s
theorem ctx_step (s : PS) (k : Nat) (hk : k < 2) (he : s.en k < 256) : ctxs s (k + 1) = ctxs s k ++ (mk (decide (0 < k)) 32 ++ mk (decide ((s.en k : Int) < 16)) 48 ++ hex8 (s.en k) ++ [47] ++ [hx (s.th k)]) := by
  have h8 := hex8_hx (s.en k) he
  have hm : mk (decide ((s.en k : Int) < 16)) 48 = if s.en k < 16 then [48] else [] := by
    by_cases h : s.en k < 16
    · have : (s.en k : Int) < 16 := by omega
      simp [mk, h, this]
    · have : ¬ (s.en k : Int) < 16 := by omega
      simp [mk, h, this]
  rw [hm, List.append_assoc (mk _ _) _ (hex8 _), h8]
  rcases k with _ | _ | k
  · rfl
  · simp [ctxs, textL, ctxL, mk]
  · omega
section
variable {w : World} {P : Nat} {s : PS}
set_option maxHeartbeats 8000000 in
theorem text_any (h : Box w P 58 (plc s)) (ok : s.ok) (htz : Tz16 w) : Calls Tryd.prog 14 #[.pointer (some ⟨P, 0, none⟩)] w fun e w' => e = .returned (.string (st (textL s))) ∧ Below w.heap.size w w' := by
  have HB := Lib.hid h
  have HM := Lib.hid (isMade_any h)
  have HOK := Lib.hid ok
  have HTZ := Lib.hid htz
  clear h ok htz
  go_enter Tryd.func14, Tryd.ntmps14
  go_wp2_with (go_at_call 22; refine HM.out.mono ?_; rintro e w' ⟨rfl, rfl⟩)
  go_loopw [3, 16] (fun x i wr => ∃ k : Nat, k ≤ 7 ∧ x = .string (st (srcsL s k)) ∧ i = .int .i64 k ∧ Below w.heap.size w wr) (fun _ i _ => 7 - (intOf i).toNat)
  case atStart => exact ⟨0, Nat.zero_le _, rfl, rfl, Below.refl _ _⟩
  case round =>
    obtain ⟨k, hk, rfl, rfl, hb⟩ := hrel
    have k1 : (0 : Int) ≤ (k : Int) := Int.natCast_nonneg _
    by_cases hlt : k < 7
    · have k2 : (k : Int) < 7 := by omega
      have HBW := Lib.hid hb
      have HR : Hid (wr.rangeAt P (5 + k * 4) [.int .u8 (s.pr (k + 1)), .bool (s.hi (k + 1)), .bool (s.pe (k + 1)), .bool (s.se (k + 1))]) := Lib.hid (by
        have := src_range (HB.out.over hb HB.out.inHeap) (k + 1) (by omega)
        rwa [show 1 + (k + 1) * 4 = 5 + k * 4 by omega] at this)
      clear hb
      go_wp2_with (first
        | (refine wpList_load_mid rfl 52 _ rfl P (5 + k * 4) rfl _ _ HR.out Tryd.underlying52 rfl rfl ?_)
        | (refine wpList_store_box rfl 52 _ _ rfl wr.heap.size #[.int .u8 (s.pr (k + 1)), .bool (s.hi (k + 1)), .bool (s.pe (k + 1)), .bool (s.se (k + 1))] rfl rfl 52 _ (Box.made wr 52 _) (by kernel_rfl) rfl (by rw [← Array.all_toList]; rfl) ?_; intro w3 hb3 hbl3; have H3 := Lib.hid (And.intro hb3 hbl3); clear hb3 hbl3))
      have x0 : ∀ j, (w3.drewN j).cell? ⟨wr.heap.size, 0, none⟩ = some (.int .u8 (s.pr (k + 1))) := fun j => (H3.out.1.drawn j).read 0
      have x1 : ∀ j, (w3.drewN j).cell? ⟨wr.heap.size, 1, none⟩ = some (.bool (s.hi (k + 1))) := fun j => (H3.out.1.drawn j).read 1
      have x2 : ∀ j, (w3.drewN j).cell? ⟨wr.heap.size, 2, none⟩ = some (.bool (s.pe (k + 1))) := fun j => (H3.out.1.drawn j).read 2
      have x3 : ∀ j, (w3.drewN j).cell? ⟨wr.heap.size, 3, none⟩ = some (.bool (s.se (k + 1))) := fun j => (H3.out.1.drawn j).read 3
      have T3 : Hid (Below w.heap.size w w3) := Lib.hid ((HBW.out.alloc HBW.out.size _).trans (H3.out.2.mono HBW.out.size))
      have hp8 := HOK.out.pr (k + 1)
      have hw := wrap8 (s.pr (k + 1)) hp8
      have HI := Lib.hid (itoa_to (s.pr (k + 1)) hp8)
      have HE : Hid (st (srcsL s k) ++ (st [hx (s.pr (k + 1))] ++ st (mk (s.hi (k + 1)) 104) ++ st (mk (s.pe (k + 1)) 112) ++ st (mk (s.se (k + 1)) 115) ++ ⟨#[32]⟩) = st (srcsL s (k + 1))) := Lib.hid (by
        have e : (⟨#[32]⟩ : ByteArray) = st [32] := rfl
        rw [e, st_app, st_app, st_app, st_app, st_app]
        congr 1)
      have z0 : (st (srcsL s k)).size ≤ 35 := by rw [st_size]; have := srcsL_len s k; omega
      have z1 : (st [hx (s.pr (k + 1))]).size = 1 := st_size _
      have z2 : (st (mk (s.hi (k + 1)) 104)).size ≤ 1 := by rw [st_size]; exact mk_len _ _
      have z3 : (st (mk (s.pe (k + 1)) 112)).size ≤ 1 := by rw [st_size]; exact mk_len _ _
      have z4 : (st (mk (s.se (k + 1)) 115)).size ≤ 1 := by rw [st_size]; exact mk_len _ _
      generalize st (srcsL s k) = t0 at z0 HE
      generalize st [hx (s.pr (k + 1))] = t1 at z1 HI HE
      have y1 : ¬ 9223372036854775807 < t1.size + (st (mk (s.hi (k + 1)) 104)).size := by omega
      have y2 : ¬ 9223372036854775807 < t1.size + (st (mk (s.hi (k + 1)) 104)).size + (st (mk (s.pe (k + 1)) 112)).size := by omega
      have y3 : ¬ 9223372036854775807 < t1.size + (st (mk (s.hi (k + 1)) 104)).size + (st (mk (s.pe (k + 1)) 112)).size + (st (mk (s.se (k + 1)) 115)).size := by omega
      have y4 : ¬ 9223372036854775807 < t1.size + (st (mk (s.hi (k + 1)) 104)).size + (st (mk (s.pe (k + 1)) 112)).size + (st (mk (s.se (k + 1)) 115)).size + 1 := by omega
      have y5 : ¬ 9223372036854775807 < t0.size + (t1.size + (st (mk (s.hi (k + 1)) 104)).size + (st (mk (s.pe (k + 1)) 112)).size + (st (mk (s.se (k + 1)) 115)).size + 1) := by omega
      clear z0 z1 z2 z3 z4 hp8
      go_quiet ((first | (go_at_call 30; exact Calls.quiet_of_same (HI.out _)) | (go_at_call 31; exact Calls.quiet_of_same (mark_to _ _ _))))
      go_wp2
      go_roundw
      case rel => exact ⟨k + 1, by omega, by rw [← HE.out], by go_num, below_drawn T3.out _⟩
      case measure => simp [intOf]; omega
    · obtain rfl : k = 7 := by omega
      have HBW := Lib.hid hb
      have HC := Lib.hid (con_range (HB.out.over hb HB.out.inHeap))
      clear hb hlt k1 hk
      go_wp2_with (refine wpList_load_mid rfl 56 _ rfl P 33 rfl _ _ HC.out Tryd.underlying56 rfl rfl ?_)
      clear HC
      go_loopw [3, 44] (fun x i wr => ∃ k : Nat, k ≤ 2 ∧ x = .string (st (ctxs s k)) ∧ i = .int .i64 k ∧ Below w.heap.size w wr) (fun _ i _ => 2 - (intOf i).toNat)
      case atStart => exact ⟨0, Nat.zero_le _, rfl, rfl, HBW.out⟩
      clear HBW
      case round =>
        obtain ⟨k, hk, rfl, rfl, hb⟩ := hrel
        have k1 : (0 : Int) ≤ (k : Int) := Int.natCast_nonneg _
        by_cases hlt : k < 2
        · have k2 : (k : Int) < 2 := by omega
          have HBW := Lib.hid hb
          clear hb
          have hix := con_at s wr k hlt
          go_wp2_with (refine wpList_store_box rfl 55 _ _ rfl wr.heap.size #[.int .u8 (s.en k), .int .u8 (s.th k)] rfl rfl 55 _ (Box.made wr 55 _) (by kernel_rfl) rfl (by rw [← Array.all_toList]; rfl) ?_; intro w3 hb3 hbl3; have H3 := Lib.hid (And.intro hb3 hbl3); clear hb3 hbl3)
          have T3 : Hid (Below w.heap.size w w3.drew) := Lib.hid (((HBW.out.alloc HBW.out.size _).trans (H3.out.2.mono HBW.out.size)).drew)
          have X3 : Hid (Box w3.drew wr.heap.size 55 #[.int .u8 (s.en k), .int .u8 (s.th k)]) := Lib.hid H3.out.1.drawn1
          have LX : Hid (∀ W, Box W wr.heap.size 55 #[.int .u8 (s.en k), .int .u8 (s.th k)] → W.cell? ⟨wr.heap.size, 0, none⟩ = some (.int .u8 (s.en k)) ∧ W.cell? ⟨wr.heap.size, 1, none⟩ = some (.int .u8 (s.th k))) := Lib.hid fun W h => ⟨h.read 0, h.read 1⟩
          have hX4 : wr.heap.size < w3.drew.heap.size := X3.out.inHeap
          have ht8 := HOK.out.th k
          have he8 := HOK.out.en k
          have hw := wrap8 (s.th k) ht8
          have hw2 : IntKind.u64.wrap (s.en k : Int) = (s.en k : Int) := by rw [IntKind.wrap_u64]; omega
          have HI := Lib.hid (itoa_to (s.th k) ht8)
          have HF : Hid (∀ W, Below w.heap.size w W → Calls Tryd.prog 32 #[.int .u64 (s.en k), .int .i64 16] W fun e w' => e = .returned (.string (st (hex8 (s.en k)))) ∧ Below W.heap.size W w') := Lib.hid (fun W hW => format16 (fun W2 hW2 => HTZ.out W2 (hW.trans (hW2.mono hW.size))) (s.en k) he8)
          have HE : Hid (st (ctxs s k) ++ (st (mk (decide (0 < k)) 32) ++ st (mk (decide ((s.en k : Int) < 16)) 48) ++ st (hex8 (s.en k)) ++ ⟨#[47]⟩ ++ st [hx (s.th k)]) = st (ctxs s (k + 1))) := Lib.hid (by
            have e : (⟨#[47]⟩ : ByteArray) = st [47] := rfl
            rw [e, st_app, st_app, st_app, st_app, st_app, ctx_step s k hlt he8])
          have z0 : (st (ctxs s k)).size ≤ 44 := by rw [st_size]; exact ctxs_len s k
          have z1 : (st (mk (decide (0 < k)) 32)).size ≤ 1 := by rw [st_size]; exact mk_len _ _
          have z2 : (st (mk (decide ((s.en k : Int) < 16)) 48)).size ≤ 1 := by rw [st_size]; exact mk_len _ _
          have z3 : (st (hex8 (s.en k))).size ≤ 2 := by rw [st_size]; unfold hex8; split <;> simp
          have z4 : (st [hx (s.th k)]).size = 1 := st_size _
          generalize st (ctxs s k) = t0 at z0 HE
          generalize st (hex8 (s.en k)) = t3 at z3 HF HE
          generalize st [hx (s.th k)] = t4 at z4 HI HE
          have y1 : ¬ 9223372036854775807 < (st (mk (decide (0 < k)) 32)).size + (st (mk (decide ((s.en k : Int) < 16)) 48)).size := by omega
          have y2 : ¬ 9223372036854775807 < (st (mk (decide (0 < k)) 32)).size + (st (mk (decide ((s.en k : Int) < 16)) 48)).size + t3.size := by omega
          have y3 : ¬ 9223372036854775807 < (st (mk (decide (0 < k)) 32)).size + (st (mk (decide ((s.en k : Int) < 16)) 48)).size + t3.size + 1 := by omega
          have y4 : ¬ 9223372036854775807 < (st (mk (decide (0 < k)) 32)).size + (st (mk (decide ((s.en k : Int) < 16)) 48)).size + t3.size + 1 + t4.size := by omega
          have y5 : ¬ 9223372036854775807 < t0.size + ((st (mk (decide (0 < k)) 32)).size + (st (mk (decide ((s.en k : Int) < 16)) 48)).size + t3.size + 1 + t4.size) := by omega
          clear z0 z1 z2 z3 z4 ht8 he8 HBW H3 hix
          have hHeld := LX.out _ X3.out
          go_wp2
          refine wp_region_calm (fun w' => w'.cell? ⟨wr.heap.size, 0, none⟩ = some (.int .u8 (s.en k)) ∧ w'.cell? ⟨wr.heap.size, 1, none⟩ = some (.int .u8 (s.th k)))
            (.e 0 :: .e 0 :: .e 0 :: .e 1 :: .e 1 :: .e 1 :: .e 3 :: .e 3 :: .e 3 :: .e 6 :: .e 6 :: .e 6 :: .l 0 :: .l 0 :: .e 0 :: .l 0 :: .e 0 :: .e 0 :: .l 0 :: .e 0 :: .e 0 :: .e 0 :: []) (by kernel_rfl) (by kernel_rfl) (by kernel_rfl) (by kernel_rfl) ?_
          repeat (first
            | (refine mv_take0 (v := ?_) (by rfl) hHeld ?_ ?_; rotate_left 1; (focus (intro w hSw; (try dsimp only at hSw); obtain ⟨hs0, hs1⟩ := hSw; go_simp; (try with_reducible rfl); done)); (try simp only [Act.put, List.setIfInBounds_toArray, List.set_cons_zero, List.set_cons_succ]))
            | (refine mv_take1 (v := ?_) (by rfl) hHeld ?_ ?_; rotate_left 1; (focus (intro w hSw; (try dsimp only at hSw); obtain ⟨hs0, hs1⟩ := hSw; go_simp; (try with_reducible rfl); done)); (try simp only [Act.put, List.setIfInBounds_toArray, List.set_cons_zero, List.set_cons_succ]))
            | (refine mv_take3 (v := ?_) (by rfl) hHeld ?_ ?_; rotate_left 1; (focus (intro w hSw; (try dsimp only at hSw); obtain ⟨hs0, hs1⟩ := hSw; go_simp; (try with_reducible rfl); done)); (try simp only [Act.put, List.setIfInBounds_toArray, List.set_cons_zero, List.set_cons_succ]))
            | (refine mv_take6 (v := ?_) (by rfl) hHeld ?_ ?_; rotate_left 1; (focus (intro w hSw; (try dsimp only at hSw); obtain ⟨hs0, hs1⟩ := hSw; go_simp; (try with_reducible rfl); done)); (try simp only [Act.put, List.setIfInBounds_toArray, List.set_cons_zero, List.set_cons_succ])))
          refine mv_loud0 (by rfl) (fun K2 hK => ?_)
          go_simp
          go_at_call 31
          refine (mark_to _ _ _).mono ?_
          rintro e w4 ⟨rfl, rfl⟩
          refine hK.out _ _ hHeld ?_
          clear hK K2
          (try simp only [Act.put, List.setIfInBounds_toArray, List.set_cons_zero, List.set_cons_succ])
          refine mv_loud0 (by rfl) (fun K2 hK => ?_)
          go_simp
          go_at_call 31
          refine (mark_to _ _ _).mono ?_
          rintro e w4 ⟨rfl, rfl⟩
          refine hK.out _ _ hHeld ?_
          clear hK K2
          (try simp only [Act.put, List.setIfInBounds_toArray, List.set_cons_zero, List.set_cons_succ])
          repeat (first
            | (refine mv_take0 (v := ?_) (by rfl) hHeld ?_ ?_; rotate_left 1; (focus (intro w hSw; (try dsimp only at hSw); obtain ⟨hs0, hs1⟩ := hSw; go_simp; (try with_reducible rfl); done)); (try simp only [Act.put, List.setIfInBounds_toArray, List.set_cons_zero, List.set_cons_succ]))
            | (refine mv_take1 (v := ?_) (by rfl) hHeld ?_ ?_; rotate_left 1; (focus (intro w hSw; (try dsimp only at hSw); obtain ⟨hs0, hs1⟩ := hSw; go_simp; (try with_reducible rfl); done)); (try simp only [Act.put, List.setIfInBounds_toArray, List.set_cons_zero, List.set_cons_succ]))
            | (refine mv_take3 (v := ?_) (by rfl) hHeld ?_ ?_; rotate_left 1; (focus (intro w hSw; (try dsimp only at hSw); obtain ⟨hs0, hs1⟩ := hSw; go_simp; (try with_reducible rfl); done)); (try simp only [Act.put, List.setIfInBounds_toArray, List.set_cons_zero, List.set_cons_succ]))
            | (refine mv_take6 (v := ?_) (by rfl) hHeld ?_ ?_; rotate_left 1; (focus (intro w hSw; (try dsimp only at hSw); obtain ⟨hs0, hs1⟩ := hSw; go_simp; (try with_reducible rfl); done)); (try simp only [Act.put, List.setIfInBounds_toArray, List.set_cons_zero, List.set_cons_succ])))
          refine mv_loud0 (by rfl) (fun K2 hK => ?_)
          go_simp
          go_at_call 32
          refine (HF.out _ T3.out).mono ?_
          rintro e w4 ⟨rfl, hz⟩
          have T4 := Lib.hid (T3.out.trans (hz.mono T3.out.size))
          have X4 := Lib.hid (X3.out.over hz X3.out.inHeap)
          clear hz
          clear hHeld
          have hHeld := LX.out _ X4.out
          refine hK.out _ _ hHeld ?_
          clear hK K2
          (try simp only [Act.put, List.setIfInBounds_toArray, List.set_cons_zero, List.set_cons_succ])
          repeat (first
            | (refine mv_take0 (v := ?_) (by rfl) hHeld ?_ ?_; rotate_left 1; (focus (intro w hSw; (try dsimp only at hSw); obtain ⟨hs0, hs1⟩ := hSw; go_simp; (try with_reducible rfl); done)); (try simp only [Act.put, List.setIfInBounds_toArray, List.set_cons_zero, List.set_cons_succ]))
            | (refine mv_take1 (v := ?_) (by rfl) hHeld ?_ ?_; rotate_left 1; (focus (intro w hSw; (try dsimp only at hSw); obtain ⟨hs0, hs1⟩ := hSw; go_simp; (try with_reducible rfl); done)); (try simp only [Act.put, List.setIfInBounds_toArray, List.set_cons_zero, List.set_cons_succ]))
            | (refine mv_take3 (v := ?_) (by rfl) hHeld ?_ ?_; rotate_left 1; (focus (intro w hSw; (try dsimp only at hSw); obtain ⟨hs0, hs1⟩ := hSw; go_simp; (try with_reducible rfl); done)); (try simp only [Act.put, List.setIfInBounds_toArray, List.set_cons_zero, List.set_cons_succ]))
            | (refine mv_take6 (v := ?_) (by rfl) hHeld ?_ ?_; rotate_left 1; (focus (intro w hSw; (try dsimp only at hSw); obtain ⟨hs0, hs1⟩ := hSw; go_simp; (try with_reducible rfl); done)); (try simp only [Act.put, List.setIfInBounds_toArray, List.set_cons_zero, List.set_cons_succ])))
          refine mv_loud0 (by rfl) (fun K2 hK => ?_)
          go_simp
          go_at_call 30
          refine (HI.out _).mono ?_
          rintro e w5 ⟨rfl, rfl⟩
          refine hK.out _ _ hHeld ?_
          clear hK K2
          (try simp only [Act.put, List.setIfInBounds_toArray, List.set_cons_zero, List.set_cons_succ])
          repeat (first
            | (refine mv_take0 (v := ?_) (by rfl) hHeld ?_ ?_; rotate_left 1; (focus (intro w hSw; (try dsimp only at hSw); obtain ⟨hs0, hs1⟩ := hSw; go_simp; (try with_reducible rfl); done)); (try simp only [Act.put, List.setIfInBounds_toArray, List.set_cons_zero, List.set_cons_succ]))
            | (refine mv_take1 (v := ?_) (by rfl) hHeld ?_ ?_; rotate_left 1; (focus (intro w hSw; (try dsimp only at hSw); obtain ⟨hs0, hs1⟩ := hSw; go_simp; (try with_reducible rfl); done)); (try simp only [Act.put, List.setIfInBounds_toArray, List.set_cons_zero, List.set_cons_succ]))
            | (refine mv_take3 (v := ?_) (by rfl) hHeld ?_ ?_; rotate_left 1; (focus (intro w hSw; (try dsimp only at hSw); obtain ⟨hs0, hs1⟩ := hSw; go_simp; (try with_reducible rfl); done)); (try simp only [Act.put, List.setIfInBounds_toArray, List.set_cons_zero, List.set_cons_succ]))
            | (refine mv_take6 (v := ?_) (by rfl) hHeld ?_ ?_; rotate_left 1; (focus (intro w hSw; (try dsimp only at hSw); obtain ⟨hs0, hs1⟩ := hSw; go_simp; (try with_reducible rfl); done)); (try simp only [Act.put, List.setIfInBounds_toArray, List.set_cons_zero, List.set_cons_succ])))
          refine mv_calm ?_
          go_wp2
          go_roundw
          case rel => exact ⟨k + 1, by omega, by rw [← HE.out], by go_num, T4.out⟩
          case measure => simp [intOf]; omega
        · obtain rfl : k = 2 := by omega
          go_wp2
          go_ret
          exact ⟨rfl, hb⟩
end
end Go.Proofs.YtlgefljbhbefgaaDoor
