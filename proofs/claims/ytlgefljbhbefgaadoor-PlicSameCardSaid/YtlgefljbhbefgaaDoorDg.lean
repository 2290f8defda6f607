/- The document's Text. -/
import Derived.Test.YtlgefljbhbefgaaDoorDf
set_option linter.unusedVariables false
set_option linter.unusedSimpArgs false
namespace Go.Proofs.YtlgefljbhbefgaaDoor
open Go.RowKit
attribute [local go_sem] Oper.semAt_some
theorem dctx_step (s : PS) (k : Nat) (hk : k < 2) : ctxs s (k + 1) = ctxs s k ++ ((if k = 0 then [] else [32]) ++ [hx (s.en k / 16)] ++ [hx (s.en k % 16)] ++ [47] ++ [hx (s.th k)]) := by
  rcases k with _ | _ | k
  · rfl
  · simp [ctxs, textL, ctxL]
  · omega
/-- As the document goes: a blank behind the first context. -/
def dctxs (s : PS) : Nat → List UInt8
  | 0 => srcsL s 7
  | 1 => srcsL s 7 ++ (ctxL s 0 ++ [32])
  | _ => textL s
theorem dctxs_len (s : PS) (k : Nat) : (dctxs s k).length ≤ 44 := by
  have := srcsL_len s 7
  rcases k with _ | _ | k
  · show (srcsL s 7).length ≤ 44
    omega
  · show (srcsL s 7 ++ (ctxL s 0 ++ [32])).length ≤ 44
    rw [List.length_append]
    have : (ctxL s 0 ++ [32]).length = 5 := rfl
    omega
  · exact textL_len s
section
variable {w : World} {D : Nat} {s : PS}
set_option maxHeartbeats 8000000 in
set_option maxRecDepth 100000 in
theorem dtext_any (h : Box w D 32 (dpl s.doc)) (ok : s.ok) : Calls Tryd.prog 15 #[.pointer (some ⟨D, 0, none⟩)] w fun e w' => e = .returned (.string (st (textL s))) ∧ Below w.heap.size w w' := by
  have HB := Lib.hid h
  have HOK := Lib.hid ok
  clear h ok
  go_enter Tryd.func15, Tryd.ntmps15
  go_wp2
  go_loop [3, 4] (fun x i => ∃ n : Nat, 1 ≤ n ∧ n ≤ 8 ∧ x = .string (st (srcsL s (n - 1))) ∧ i = .int .i64 n) (fun _ i => 8 - (intOf i).toNat)
  case atStart => exact ⟨1, by omega, by omega, rfl, rfl⟩
  case round =>
    obtain ⟨n, hn1, hn, rfl, rfl⟩ := hrel
    have k1 : (0 : Int) ≤ (n : Int) := Int.natCast_nonneg _
    by_cases hn8 : n < 8
    · have k2 : (n : Int) < 8 := by omega
      have c0 : w.cell? ⟨D, n, none⟩ = some (.int .i64 (s.pr n)) := (HB.out.read _).trans (dpr_at s.doc n hn8)
      have c1 : w.cell? ⟨D, 8 + n, none⟩ = some (.bool (s.hi n)) := (HB.out.read _).trans (dhi_at s.doc n hn8)
      have c2 : w.cell? ⟨D, 16 + n, none⟩ = some (.bool (s.pe n)) := (HB.out.read _).trans (dpe_at s.doc n hn8)
      have c3 : w.cell? ⟨D, 24 + n, none⟩ = some (.bool (s.se n)) := (HB.out.read _).trans (dse_at s.doc n hn8)
      have hp8 := HOK.out.pr n
      have hw : IntKind.u64.wrap (s.pr n : Int) = (s.pr n : Int) := by rw [IntKind.wrap_u64]; omega
      have HI := Lib.hid (digit_any (s.pr n) (by omega))
      have HE : Hid (st (srcsL s (n - 1)) ++ st [hx (s.pr n)] ++ st (mk (s.hi n) 104) ++ st (mk (s.pe n) 112) ++ st (mk (s.se n) 115) ++ ⟨#[32]⟩ = st (srcsL s n)) := Lib.hid (by
        have e : (⟨#[32]⟩ : ByteArray) = st [32] := rfl
        rw [e, st_app, st_app, st_app, st_app, st_app]
        congr 1
        obtain ⟨k, rfl⟩ : ∃ k, n = k + 1 := ⟨n - 1, by omega⟩
        simp [srcsL, wordL])
      have z0 : (st (srcsL s (n - 1))).size ≤ 35 := by rw [st_size]; have := srcsL_len s (n - 1); omega
      have z1 : (st [hx (s.pr n)]).size = 1 := st_size _
      generalize st (srcsL s (n - 1)) = t0 at z0 HE
      generalize st [hx (s.pr n)] = t1 at z1 HI HE
      generalize s.hi n = bh at c1 HE
      generalize s.pe n = bp at c2 HE
      generalize s.se n = bs at c3 HE
      have y1 : ¬ 9223372036854775807 < t0.size + t1.size := by omega
      have y2 : ¬ 9223372036854775807 < t0.size + t1.size + 1 := by omega
      have y3 : ¬ 9223372036854775807 < t0.size + t1.size + 1 + 1 := by omega
      have y4 : ¬ 9223372036854775807 < t0.size + t1.size + 1 + 1 + 1 := by omega
      have y5 : ¬ 9223372036854775807 < t0.size + t1.size + 1 + 1 + 1 + 1 := by omega
      have hne : ∀ x : ByteArray, x ++ st [] = x := fun x => by apply ByteArray.ext; (first | done | simp [st])
      clear z0 z1 hp8
      cases bh <;> cases bp <;> cases bs
      all_goals
        simp only [mk, if_true, if_false, Bool.false_eq_true, hne] at HE
        clear hne
        go_wp2_with (go_at_call 33; refine (HI.out _).mono ?_; rintro e w' ⟨rfl, rfl⟩)
        go_round
        case rel => exact ⟨n + 1, by omega, by omega, by rw [Nat.add_sub_cancel, ← HE.out] <;> rfl, by go_num⟩
        case measure => simp [intOf]; omega
    · obtain rfl : n = 8 := by omega
      clear k1 hn hn1
      go_wp2
      go_loopw [3, 5] (fun x i wr => ∃ k : Nat, k ≤ 2 ∧ x = .string (st (dctxs s k)) ∧ i = .int .i64 k ∧ Below w.heap.size w wr) (fun _ i _ => 2 - (intOf i).toNat)
      case atStart => exact ⟨0, Nat.zero_le _, rfl, rfl, Below.refl _ _⟩
      case round =>
        obtain ⟨k, hk, rfl, rfl, hb⟩ := hrel
        have k1 : (0 : Int) ≤ (k : Int) := Int.natCast_nonneg _
        by_cases hlt : k < 2
        · have k2 : (k : Int) < 2 := by omega
          have HBW := Lib.hid hb
          clear hb
          have HRW : Hid (wr.rangeAt D (32 + k * 8) (bs (s.on k)).toList) := Lib.hid (drow (HB.out.over HBW.out HB.out.inHeap) (32 + k * 8) (s.on k) (fun i hi => den_at s.doc k hlt i hi))
          have hen := bits_en HOK.out k
          go_wp2_with (first
            | (refine wpList_load_mid rfl 28 _ rfl D (32 + k * 8) rfl (bs (s.on k)).toList _ HRW.out Tryd.underlying28 rfl rfl ?_)
            | (go_at_call 34; refine (dbits_any (s.on k) _).mono ?_; rintro e w2 ⟨rfl, hb⟩; have T2 := Lib.hid (HBW.out.trans (hb.mono HBW.out.size)); clear hb))
          have ht8 := HOK.out.th k
          have he8 := HOK.out.en k
          have HX : Hid (st (dctxs s k) ++ st [hx (s.en k / 16)] ++ st [hx (s.en k % 16)] ++ ⟨#[47]⟩ ++ st [hx (s.th k)] ++ (if k = 0 then ⟨#[32]⟩ else ⟨#[]⟩) = st (dctxs s (k + 1))) := Lib.hid (by
            have e : (⟨#[47]⟩ : ByteArray) = st [47] := rfl
            have e2 : (⟨#[32]⟩ : ByteArray) = st [32] := rfl
            have e3 : (⟨#[]⟩ : ByteArray) = st [] := rfl
            rw [e, e2, e3]
            rcases k with _ | _ | k
            · rw [if_pos rfl, st_app, st_app, st_app, st_app, st_app]; simp [dctxs, ctxL]
            · rw [if_neg (by decide), st_app, st_app, st_app, st_app, st_app]; simp [dctxs, textL, ctxL]
            · omega)
          obtain ⟨x, hx0⟩ : ∃ x : Nat, s.en k = x := ⟨_, rfl⟩
          rw [hx0] at HX he8 ⊢
          obtain ⟨a, ha⟩ : ∃ a : Nat, x / 16 = a := ⟨_, rfl⟩
          obtain ⟨b, hb⟩ : ∃ b : Nat, x % 16 = b := ⟨_, rfl⟩
          rw [ha, hb] at HX
          have q1 : (x : Int) / 16 = (a : Int) := by omega
          have q2 : (x : Int).tdiv 16 = (a : Int) := by rw [← q1]; rfl
          have q3 : (x : Int) % 16 = (b : Int) := by omega
          have q4 : (x : Int).tmod 16 = (b : Int) := by rw [← q3]; rfl
          have a16 : a < 16 := by omega
          have b16 : b < 16 := by omega
          have wa : IntKind.u64.wrap (a : Int) = (a : Int) := by rw [IntKind.wrap_u64]; omega
          have wb : IntKind.u64.wrap (b : Int) = (b : Int) := by rw [IntKind.wrap_u64]; omega
          have wt : IntKind.u64.wrap (s.th k : Int) = (s.th k : Int) := by rw [IntKind.wrap_u64]; omega
          have t16 : s.th k < 16 := by omega
          have c5 : ∀ j, (w2.drewN j).cell? ⟨D, 48 + k, none⟩ = some (.int .i64 (s.th k)) := fun j => (((HB.out.over T2.out HB.out.inHeap).drawn j).read _).trans (dth_at s.doc k hlt)
          have HD : Hid (∀ n : Nat, n < 16 → ∀ W, Calls Tryd.prog 33 #[.int .u64 n] W fun e w' => e = .returned (.string (st [hx n])) ∧ w' = W) := Lib.hid digit_any
          have z0 : (st (dctxs s k)).size ≤ 44 := by rw [st_size]; exact dctxs_len s k
          have z1 : (st [hx a]).size = 1 := st_size _
          have z2 : (st [hx b]).size = 1 := st_size _
          have z3 : (st [hx (s.th k)]).size = 1 := st_size _
          generalize st (dctxs s k) = t0 at z0 HX
          have y1 : ¬ 9223372036854775807 < t0.size + (st [hx a]).size := by omega
          have y2 : ¬ 9223372036854775807 < t0.size + (st [hx a]).size + (st [hx b]).size := by omega
          have y3 : ¬ 9223372036854775807 < t0.size + (st [hx a]).size + (st [hx b]).size + 1 := by omega
          have y4 : ¬ 9223372036854775807 < t0.size + (st [hx a]).size + (st [hx b]).size + 1 + (st [hx (s.th k)]).size := by omega
          have y5 : ¬ 9223372036854775807 < t0.size + (st [hx a]).size + (st [hx b]).size + 1 + (st [hx (s.th k)]).size + 1 := by omega
          have T3 := Lib.hid fun j => below_drawn T2.out j
          clear z0 z1 z2 z3 hx0 ha hb hen HRW HBW ht8 he8
          go_quiet ((go_at_call 33; exact Calls.quiet_of_same (HD.out _ (by assumption) _)))
          by_cases hk0 : k = 0
          · have e1 : ((k : Int) == 0) = true := by rw [hk0]; rfl
            rw [if_pos hk0] at HX
            clear hk0
            go_wp2
            go_roundw
            case rel => exact ⟨k + 1, by omega, by rw [← HX.out], by go_num, T3.out _⟩
            case measure => simp [intOf]; omega
          · have e1 : ((k : Int) == 0) = false := beq_eq_false_iff_ne.2 (by omega)
            have hne : ∀ x : ByteArray, x ++ ⟨#[]⟩ = x := fun x => by apply ByteArray.ext; simp
            rw [if_neg hk0, hne] at HX
            clear hk0 hne
            go_wp2
            go_roundw
            case rel => exact ⟨k + 1, by omega, by rw [← HX.out], by go_num, T3.out _⟩
            case measure => simp [intOf]; omega
        · obtain rfl : k = 2 := by omega
          go_wp2
          go_ret
          exact ⟨rfl, hb⟩
end
end Go.Proofs.YtlgefljbhbefgaaDoor
