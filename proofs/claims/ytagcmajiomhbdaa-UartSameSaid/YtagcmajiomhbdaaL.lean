/- UartSame's body. -/
import Derived.Test.YtagcmajiomhbdaaK
import Derived.Test.YtagcmajiomhbdaaHs
set_option linter.unusedVariables false
set_option linter.unusedSimpArgs false
namespace Go.Proofs.Ytagcmajiomhbdaa
open Go.RowKit
set_option maxRecDepth 100000 in
theorem same_long (a0 a1 a2 : Option Addr) (n0 c0 n1 c1 n2 c2 : Nat) (h : ¬ (n0 ≤ 60 ∧ n1 ≤ 60 ∧ n2 ≤ 60)) (w : World) : Calls Try.prog 7 #[.slice a0 n0 c0, .slice a1 n1 c1, .slice a2 n2 c2] w (Yes w) := by
  by_cases h0 : n0 ≤ 60
  · by_cases h1 : n1 ≤ 60
    · have h2 : ¬ n2 ≤ 60 := fun h2 => h ⟨h0, h1, h2⟩
      clear h
      go_enter Try.func7, Try.ntmps7
      go_wp2_with (go_at_call 8; refine (awake_any _).mono ?_; rintro e w' ⟨rfl, bel⟩)
      go_ret
      exact ⟨rfl, bel⟩
    · clear h
      go_enter Try.func7, Try.ntmps7
      go_wp2_with (go_at_call 8; refine (awake_any _).mono ?_; rintro e w' ⟨rfl, bel⟩)
      go_ret
      exact ⟨rfl, bel⟩
  · clear h
    go_enter Try.func7, Try.ntmps7
    go_wp2_with (go_at_call 8; refine (awake_any _).mono ?_; rintro e w' ⟨rfl, bel⟩)
    go_ret
    exact ⟨rfl, bel⟩
theorem bytes_ne {x y : ByteArray} (h : ¬ x = y) : (x.toList == y.toList) = false := beq_eq_false_iff_ne.2 fun e => h (by
  rw [ByteArray.toList_eq, ByteArray.toList_eq] at e
  exact ByteArray.ext (Array.toList_inj.mp e))
theorem Rd_out (s : US) (off : Nat) (v : Int) : (s.Rd off v).out = s.out := by
  unfold US.Rd
  split
  · exact rd_out _ _
  · rfl
theorem Wt_out (s : US) (off : Nat) (v : Int) (x : Nat) : (s.Wt off v x).out.length ≤ s.out.length + 1 := by
  unfold US.Wt
  split
  · exact wr_out _ _ _
  · omega
theorem inp_out (s : US) (c : UInt8) : (s.inp c).out = s.out := by
  unfold US.inp
  split <;> rfl
set_option maxHeartbeats 12800000 in
set_option maxRecDepth 200000 in
theorem same_all (a0 a1 a2 : Option Addr) (n0 cap0 n1 cap1 n2 cap2 : Nat) (l0 l1 l2 : List Deed) (h0 : n0 ≤ 60) (h1 : n1 ≤ 60) (h2 : n2 ≤ 60) (w : World) (hf0 : IsDeeds w a0 n0 l0) (hf1 : IsDeeds w a1 n1 l1) (hf2 : IsDeeds w a2 n2 l2) : Calls Try.prog 7 #[.slice a0 n0 cap0, .slice a1 n1 cap1, .slice a2 n2 cap2] w (Yes w) := by
  have HL0 := Lib.hid hf0.1
  have LA0 := Lib.hid fun wx bel => hf0.later (wx := wx) bel
  have HL1 := Lib.hid hf1.1
  have LA1 := Lib.hid fun wx bel => hf1.later (wx := wx) bel
  have HL2 := Lib.hid hf2.1
  have LA2 := Lib.hid fun wx bel => hf2.later (wx := wx) bel
  clear hf0 hf1 hf2
  go_enter Try.func7, Try.ntmps7
  go_wp2_with (go_at_call 9; refine (new_any _).mono ?_; rintro e w1 ⟨rfl, rfl⟩)
  have hS := Two.new w
  generalize ((w.alloc (.cells (uc .zero (.slice none 0 0) (.slice none 0 0)) 49)).alloc (.cells (uc .zero (.slice none 0 0) (.slice none 0 0)) 49)) = w1 at hS ⊢
  generalize w.heap.size + 1 = B' at hS ⊢
  generalize hBe : w.heap.size = B at hS ⊢
  have HBe := Lib.hid hBe
  clear hBe
  go_loopw [9] (fun i wr => ∃ (k : Nat) (s : US), k ≤ n0 ∧ i = .int .i64 k ∧ Two [] w wr B s B' .zero ∧ s.out.length ≤ k) (fun i _ => n0 - (intOf i).toNat)
  case atStart => exact ⟨0, .zero, Nat.zero_le _, rfl, hS, Nat.zero_le _⟩
  case round =>
    obtain ⟨k, s, hk, rfl, hst, hout⟩ := hrel
    clear hS
    have k1 : (0 : Int) ≤ (k : Int) := Int.natCast_nonneg _
    by_cases hlt : k < n0
    · obtain ⟨f, hk2⟩ : ∃ f, l0[k]? = some f := ⟨_, List.getElem?_eq_getElem (by rw [HL0.out]; exact hlt)⟩
      obtain ⟨b, off, rfl, hbb, c0, c1, c2, c3, hn⟩ := (LA0.out wr hst.bel).2 k f hk2
      have d0 : wr.cell? ⟨b, off + k * 4, none⟩ = some (.int .u8 f.k) := by rw [Nat.mul_comm]; exact c0
      have d1 : wr.cell? ⟨b, off + k * 4 + 1, none⟩ = some (.int .u64 f.off) := by rw [Nat.mul_comm]; exact c1
      have d2 : wr.cell? ⟨b, off + k * 4 + 2, none⟩ = some (.int .u64 f.v) := by rw [Nat.mul_comm]; exact c2
      have d3 : wr.cell? ⟨b, off + k * 4 + 3, none⟩ = some (.int .i64 f.wd) := by rw [Nat.mul_comm]; exact c3
      have k2 : (k : Int) < (n0 : Int) := by omega
      have HD := Lib.hid (hst.does f hn (by omega))
      have HO := Lib.hid (deed_out s f)
      clear c0 c1 c2 c3 hk2 hbb hst hn
      go_wp2_with (go_at_call 23; refine HD.out.mono ?_; rintro e w2 ⟨rfl, hz⟩; have HZ := Lib.hid hz; clear hz)
      go_roundw
      case rel => exact ⟨k + 1, _, by omega, by go_num, HZ.out, by have := HO.out; omega⟩
      case measure => simp [intOf]; omega
    · have HB := Lib.hid hst
      clear hst
      obtain rfl : k = n0 := by omega
      have HOA := Lib.hid hout
      clear hout hlt k1
      obtain ⟨sa, hsa⟩ : ∃ sa, sa = s := ⟨_, rfl⟩
      rw [← hsa] at HB HOA
      clear hsa
      go_wp2_with fail
      go_loopw [10] (fun i wr => ∃ (k : Nat) (s : US), k ≤ n1 ∧ i = .int .i64 k ∧ Two [] w wr B sa B' s ∧ s.out.length ≤ k) (fun i _ => n1 - (intOf i).toNat)
      case atStart => exact ⟨0, .zero, Nat.zero_le _, rfl, HB.out, Nat.zero_le _⟩
      case round =>
        obtain ⟨k, s, hk, rfl, hst, hout⟩ := hrel
        have k1 : (0 : Int) ≤ (k : Int) := Int.natCast_nonneg _
        by_cases hlt : k < n1
        · obtain ⟨f, hk2⟩ : ∃ f, l1[k]? = some f := ⟨_, List.getElem?_eq_getElem (by rw [HL1.out]; exact hlt)⟩
          obtain ⟨b, off, rfl, hbb, c0, c1, c2, c3, hn⟩ := (LA1.out wr hst.bel).2 k f hk2
          have d0 : wr.cell? ⟨b, off + k * 4, none⟩ = some (.int .u8 f.k) := by rw [Nat.mul_comm]; exact c0
          have d1 : wr.cell? ⟨b, off + k * 4 + 1, none⟩ = some (.int .u64 f.off) := by rw [Nat.mul_comm]; exact c1
          have d2 : wr.cell? ⟨b, off + k * 4 + 2, none⟩ = some (.int .u64 f.v) := by rw [Nat.mul_comm]; exact c2
          have d3 : wr.cell? ⟨b, off + k * 4 + 3, none⟩ = some (.int .i64 f.wd) := by rw [Nat.mul_comm]; exact c3
          have k2 : (k : Int) < (n1 : Int) := by omega
          have HD := Lib.hid (hst.symm.does f hn (by omega))
          have HO := Lib.hid (deed_out s f)
          clear c0 c1 c2 c3 hk2 hbb hst hn
          go_wp2_with (go_at_call 23; refine HD.out.mono ?_; rintro e w2 ⟨rfl, hz⟩; have HZ := Lib.hid hz.symm; clear hz)
          go_roundw
          case rel => exact ⟨k + 1, _, by omega, by go_num, HZ.out, by have := HO.out; omega⟩
          case measure => simp [intOf]; omega

        · have HB2 := Lib.hid hst
          clear hst
          obtain rfl : k = n1 := by omega
          clear hout hlt k1 HOA
          have hok : ({ sa with out := [] } : US).ok ∧ ({ s with out := [] } : US).ok := by
            obtain ⟨⟨x1, x2, x3, x4, x5, x6, x7⟩, ⟨y1, y2, y3, y4, y5, y6, y7⟩⟩ := HB2.out.ok
            exact ⟨⟨x1, x2, x3, x4, x5, x6, x7⟩, ⟨y1, y2, y3, y4, y5, y6, y7⟩⟩
          have hinj : str (({ sa with out := [] } : US).regs ++ ({ sa with out := [] } : US).q) = str (({ s with out := [] } : US).regs ++ ({ s with out := [] } : US).q) → ({ sa with out := [] } : US) = { s with out := [] } := fun e => dump_inj hok.1 hok.2 rfl (str_inj e)
          obtain ⟨DA, hDA⟩ : ∃ D, str (({ sa with out := [] } : US).regs ++ ({ sa with out := [] } : US).q) = D := ⟨_, rfl⟩
          obtain ⟨DB, hDB⟩ : ∃ D, str (({ s with out := [] } : US).regs ++ ({ s with out := [] } : US).q) = D := ⟨_, rfl⟩
          rw [hDA, hDB] at hinj
          have HDA := Lib.hid hDA
          have HDB := Lib.hid hDB
          have HI := Lib.hid hinj
          clear hDA hDB hinj hok
          by_cases hD : DA = DB
          · subst hD
            have HI2 := Lib.hid (HI.out rfl)
            clear HI
            go_wp2_with (first | (go_at_call 16; first | (have h := T1; clear h; refine (T1.out.symm.take).mono ?_; rintro e w3 ⟨rfl, hz⟩; have T2 := Lib.hid hz.symm; clear hz) | (refine HB2.out.take.mono ?_; rintro e w2 ⟨rfl, hz⟩; have T1 := Lib.hid hz; clear hz)) | (go_at_call 14; first | (have h := T3; clear h; refine (T3.out.symm.dump HDB.out).mono ?_; rintro e w5 ⟨rfl, hz⟩; have T4 := Lib.hid hz.symm; clear hz) | (refine (T2.out.dump HDA.out).mono ?_; rintro e w4 ⟨rfl, hz⟩; have T3 := Lib.hid hz; clear hz)))
            obtain ⟨z, hz⟩ : ∃ z, z = ({ s with out := [] } : US) := ⟨_, rfl⟩
            have T5 := T4.out
            rw [HI2.out, ← hz] at T5
            have HZ0 : Hid (z.out.length ≤ 0) := Lib.hid (by rw [hz]; exact Nat.le_refl _)
            clear T1 T2 T3 T4 HI2 HDA HDB hz HB2
            have HT5 := Lib.hid T5
            clear T5
            go_loopw [11] (fun i wr => ∃ (k : Nat) (s : US), k ≤ n2 ∧ i = .int .i64 k ∧ Two [] w wr B s B' s ∧ s.out.length ≤ k) (fun i _ => n2 - (intOf i).toNat)
            case atStart => exact ⟨0, z, Nat.zero_le _, rfl, HT5.out, HZ0.out⟩
            case round =>
              obtain ⟨k, s, hk, rfl, hst, hout⟩ := hrel
              have k1 : (0 : Int) ≤ (k : Int) := Int.natCast_nonneg _
              by_cases hlt : k < n2
              · obtain ⟨f, hk2⟩ : ∃ f, l2[k]? = some f := ⟨_, List.getElem?_eq_getElem (by rw [HL2.out]; exact hlt)⟩
                obtain ⟨b, off, rfl, hbb, c0, c1, c2, c3, hn⟩ := (LA2.out wr hst.bel).2 k f hk2
                have d0 : wr.cell? ⟨b, off + k * 4, none⟩ = some (.int .u8 f.k) := by rw [Nat.mul_comm]; exact c0
                have d1 : wr.cell? ⟨b, off + k * 4 + 1, none⟩ = some (.int .u64 f.off) := by rw [Nat.mul_comm]; exact c1
                have d2 : wr.cell? ⟨b, off + k * 4 + 2, none⟩ = some (.int .u64 f.v) := by rw [Nat.mul_comm]; exact c2
                have d3 : wr.cell? ⟨b, off + k * 4 + 3, none⟩ = some (.int .i64 f.wd) := by rw [Nat.mul_comm]; exact c3
                have k2 : (k : Int) < (n2 : Int) := by omega
                rcases f with ⟨what, of, x, wd⟩
                simp only at d0 d1 d2 d3 hn
                clear c0 c1 c2 c3 hk2 hbb
                have HW := Lib.hid (hst.with 32 #[.int .u8 what, .int .u64 of, .int .u64 x, .int .i64 wd])
                have HO := Lib.hid hout
                clear hst hout
                go_wp2_with (go_at_call 21; first | (have h := T1; clear h; refine (T1.out.symm.read _ _).mono ?_; rintro e w3 ⟨rfl, hz⟩; have T2 := Lib.hid hz.symm; clear hz; have e0 := T2.out.head.read 0; have e1 := T2.out.head.read 1; have e2 := T2.out.head.read 2; have e3 := T2.out.head.read 3) | (refine (HW.out.read _ _).mono ?_; rintro e w2 ⟨rfl, hz⟩; have T1 := Lib.hid hz; clear hz; have e1 := T1.out.head.read 1; have e3 := T1.out.head.read 3))
                obtain ⟨c, hc0, hx⟩ : ∃ c : UInt8, c = UInt8.ofNat (x % 256) ∧ ((x : Int) % 256) = (c.toNat : Int) := ⟨UInt8.ofNat (x % 256), rfl, by rw [UInt8.toNat_ofNat']; omega⟩
                have hxw : IntKind.u8.wrap (x : Int) = (c.toNat : Int) := by rw [← hx]; rfl
                clear hc0
                have HN : Hid ((s.Rd of wd).out.length ≤ 1000000) := Lib.hid (by rw [Rd_out]; have := HO.out; omega)
                by_cases hm : what % 2 = 0
                · have hm2 : Int.tmod (what : Int) 2 = 0 := by rw [Int.tmod_eq_emod_of_nonneg (by omega)]; omega
                  refine wp_region_calm (fun w' => w'.cell? ⟨wr.heap.size, 0, none⟩ = some (.int .u8 what) ∧ w'.cell? ⟨wr.heap.size, 1, none⟩ = some (.int .u64 of) ∧ w'.cell? ⟨wr.heap.size, 2, none⟩ = some (.int .u64 x) ∧ w'.cell? ⟨wr.heap.size, 3, none⟩ = some (.int .i64 wd))
                    ((0, true) :: (0, true) :: (0, true) :: (0, true) :: (0, true) :: (0, true) :: (0, true) :: (0, true) :: (0, true) :: (0, true) :: (0, true) :: (0, true) :: (0, true) :: (0, true) :: (0, true) :: (0, true) :: (1, true) :: (1, true) :: (1, true) :: (1, true) :: (1, true) :: (1, true) :: (1, true) :: (0, false) :: (0, false) :: (0, true) :: (0, true) :: (0, true) :: (0, true) :: (0, true) :: (0, true) :: (0, true) :: (0, true) :: (0, true) :: (0, true) :: (0, true) :: (0, true) :: (1, true) :: (1, true) :: (1, true) :: (1, true) :: (0, false) :: (0, false) :: (0, true) :: (0, true) :: (0, true) :: (0, true) :: (0, true) :: (1, true) :: (0, false) :: (0, false) :: (0, true) :: (0, true) :: (0, true) :: (0, true) :: (1, true) :: (0, false) :: (0, false) :: (0, true) :: (0, true) :: []) (by kernel_rfl) (by kernel_rfl) (by kernel_rfl) (by kernel_rfl) ?_
                  have hHeld := T2.out.drawn1.four
                  unfold Four at hHeld
                  repeat (first
                    | (refine wpSched_take0 (v := ?_) (by rfl) hHeld ?_ ?_; rotate_left 1; (focus (intro w hSw; (try dsimp only at hSw); obtain ⟨hs0, hs1, hs2, hs3⟩ := hSw; go_simp; (try with_reducible rfl))); (try simp only [Act.put, List.setIfInBounds_toArray, List.set_cons_zero, List.set_cons_succ]))
                    | (refine wpSched_skip0 (by rfl) hHeld ?_; (try simp only [Act.put, List.setIfInBounds_toArray, List.set_cons_zero, List.set_cons_succ]))
                    | (refine wpSched_take1 (v := ?_) (by rfl) hHeld ?_ ?_; rotate_left 1; (focus (intro w hSw; (try dsimp only at hSw); obtain ⟨hs0, hs1, hs2, hs3⟩ := hSw; go_simp; (try with_reducible rfl))); (try simp only [Act.put, List.setIfInBounds_toArray, List.set_cons_zero, List.set_cons_succ]))
                    | (refine wpSched_skip1 (by rfl) hHeld ?_; (try simp only [Act.put, List.setIfInBounds_toArray, List.set_cons_zero, List.set_cons_succ]))
                    | (refine wpSched_take2 (v := ?_) (by rfl) hHeld ?_ ?_; rotate_left 1; (focus (intro w hSw; (try dsimp only at hSw); obtain ⟨hs0, hs1, hs2, hs3⟩ := hSw; go_simp; (try with_reducible rfl))); (try simp only [Act.put, List.setIfInBounds_toArray, List.set_cons_zero, List.set_cons_succ]))
                    | (refine wpSched_loud0 (by rfl) (fun K hK => ?_)
                       go_simp
                       first
                         | (go_at_call 18; first | (have h := T3; clear h; refine (T3.out.symm.write _ _ _ HN.out).mono ?_; rintro e w5 ⟨rfl, hz⟩; have T4 := Lib.hid hz.symm; clear hz; refine hK.out _ _ T4.out.four ?_; clear hHeld; have hHeld := T4.out.four; unfold Four at hHeld) | (refine (T2.out.drawn1.write _ _ _ HN.out).mono ?_; rintro e w4 ⟨rfl, hz⟩; have T3 := Lib.hid hz; clear hz; refine hK.out _ _ T3.out.four ?_; clear hHeld; have hHeld := T3.out.four; unfold Four at hHeld))
                         | (go_at_call 19; first | (have h := T5; clear h; refine (T5.out.symm.input _).mono ?_; rintro e w7 ⟨rfl, hz⟩; have T6 := Lib.hid hz.symm; clear hz; refine hK.out _ _ T6.out.four ?_; clear hHeld; have hHeld := T6.out.four; unfold Four at hHeld) | (refine (T4.out.input _).mono ?_; rintro e w6 ⟨rfl, hz⟩; have T5 := Lib.hid hz; clear hz; refine hK.out _ _ T5.out.four ?_; clear hHeld; have hHeld := T5.out.four; unfold Four at hHeld))
                         | (go_at_call 14; first | (have h := T7; clear h; refine (T7.out.symm.dump rfl).mono ?_; rintro e w9 ⟨rfl, hz⟩; have T8 := Lib.hid hz.symm; clear hz; refine hK.out _ _ T8.out.four ?_; clear hHeld; have hHeld := T8.out.four; unfold Four at hHeld) | (refine (T6.out.dump rfl).mono ?_; rintro e w8 ⟨rfl, hz⟩; have T7 := Lib.hid hz; clear hz; refine hK.out _ _ T7.out.four ?_; clear hHeld; have hHeld := T7.out.four; unfold Four at hHeld))
                         | (go_at_call 11; first | (have h := T9; clear h; refine T8.out.symm.level.mono ?_; rintro e w10 ⟨rfl, rfl⟩; refine hK.out _ _ hHeld ?_) | (refine T8.out.level.mono ?_; rintro e w10 ⟨rfl, rfl⟩; have T9 := T8; refine hK.out _ _ hHeld ?_))
                       clear hK K
                       (try simp only [Act.put, List.setIfInBounds_toArray, List.set_cons_zero, List.set_cons_succ])))
                  refine wpSched_calm ?_
                  go_wp2_with fail
                  go_roundw
                  case rel => exact ⟨k + 1, _, by omega, by go_num, T8.out.rest, by have := HO.out; have := Wt_out (s.Rd of wd) of wd x; rw [Rd_out] at this; (try rw [inp_out]); omega⟩
                  case measure => simp [intOf]; omega
                · have hm2 : (Int.tmod (what : Int) 2 == 0) = false := beq_eq_false_iff_ne.2 (by rw [Int.tmod_eq_emod_of_nonneg (by omega)]; omega)
                  refine wp_region_calm (fun w' => w'.cell? ⟨wr.heap.size, 0, none⟩ = some (.int .u8 what) ∧ w'.cell? ⟨wr.heap.size, 1, none⟩ = some (.int .u64 of) ∧ w'.cell? ⟨wr.heap.size, 2, none⟩ = some (.int .u64 x) ∧ w'.cell? ⟨wr.heap.size, 3, none⟩ = some (.int .i64 wd))
                    ((0, true) :: (0, true) :: (0, true) :: (0, true) :: (0, true) :: (0, true) :: (0, true) :: (0, true) :: (0, true) :: (0, true) :: (0, true) :: (0, true) :: (0, true) :: (0, true) :: (0, true) :: (0, true) :: (1, true) :: (1, true) :: (1, true) :: (1, true) :: (1, true) :: (1, true) :: (1, true) :: (0, false) :: (0, false) :: (0, true) :: (0, true) :: (0, true) :: (0, true) :: (0, true) :: (0, true) :: (0, true) :: (0, true) :: (0, true) :: (0, true) :: (0, true) :: (0, true) :: (0, true) :: (0, true) :: (0, true) :: (0, true) :: (0, true) :: (0, true) :: (0, true) :: (0, true) :: (0, true) :: (0, true) :: (0, true) :: (1, true) :: (0, false) :: (0, false) :: (0, true) :: (0, true) :: (0, true) :: (0, true) :: (1, true) :: (0, false) :: (0, false) :: (0, true) :: (0, true) :: []) (by kernel_rfl) (by kernel_rfl) (by kernel_rfl) (by kernel_rfl) ?_
                  have hHeld := T2.out.drawn1.four
                  unfold Four at hHeld
                  repeat (first
                    | (refine wpSched_take0 (v := ?_) (by rfl) hHeld ?_ ?_; rotate_left 1; (focus (intro w hSw; (try dsimp only at hSw); obtain ⟨hs0, hs1, hs2, hs3⟩ := hSw; go_simp; (try with_reducible rfl))); (try simp only [Act.put, List.setIfInBounds_toArray, List.set_cons_zero, List.set_cons_succ]))
                    | (refine wpSched_skip0 (by rfl) hHeld ?_; (try simp only [Act.put, List.setIfInBounds_toArray, List.set_cons_zero, List.set_cons_succ]))
                    | (refine wpSched_take1 (v := ?_) (by rfl) hHeld ?_ ?_; rotate_left 1; (focus (intro w hSw; (try dsimp only at hSw); obtain ⟨hs0, hs1, hs2, hs3⟩ := hSw; go_simp; (try with_reducible rfl))); (try simp only [Act.put, List.setIfInBounds_toArray, List.set_cons_zero, List.set_cons_succ]))
                    | (refine wpSched_skip1 (by rfl) hHeld ?_; (try simp only [Act.put, List.setIfInBounds_toArray, List.set_cons_zero, List.set_cons_succ]))
                    | (refine wpSched_take2 (v := ?_) (by rfl) hHeld ?_ ?_; rotate_left 1; (focus (intro w hSw; (try dsimp only at hSw); obtain ⟨hs0, hs1, hs2, hs3⟩ := hSw; go_simp; (try with_reducible rfl))); (try simp only [Act.put, List.setIfInBounds_toArray, List.set_cons_zero, List.set_cons_succ]))
                    | (refine wpSched_loud0 (by rfl) (fun K hK => ?_)
                       go_simp
                       first
                         | (go_at_call 18; first | (have h := T3; clear h; refine (T3.out.symm.write _ _ _ HN.out).mono ?_; rintro e w5 ⟨rfl, hz⟩; have T4 := Lib.hid hz.symm; clear hz; refine hK.out _ _ T4.out.four ?_; clear hHeld; have hHeld := T4.out.four; unfold Four at hHeld) | (refine (T2.out.drawn1.write _ _ _ HN.out).mono ?_; rintro e w4 ⟨rfl, hz⟩; have T3 := Lib.hid hz; clear hz; refine hK.out _ _ T3.out.four ?_; clear hHeld; have hHeld := T3.out.four; unfold Four at hHeld))
                         | (go_at_call 19; first | (have h := T5; clear h; refine (T5.out.symm.input _).mono ?_; rintro e w7 ⟨rfl, hz⟩; have T6 := Lib.hid hz.symm; clear hz; refine hK.out _ _ T6.out.four ?_; clear hHeld; have hHeld := T6.out.four; unfold Four at hHeld) | (refine (T4.out.input _).mono ?_; rintro e w6 ⟨rfl, hz⟩; have T5 := Lib.hid hz; clear hz; refine hK.out _ _ T5.out.four ?_; clear hHeld; have hHeld := T5.out.four; unfold Four at hHeld))
                         | (go_at_call 14; first | (have h := T7; clear h; refine (T7.out.symm.dump rfl).mono ?_; rintro e w9 ⟨rfl, hz⟩; have T8 := Lib.hid hz.symm; clear hz; refine hK.out _ _ T8.out.four ?_; clear hHeld; have hHeld := T8.out.four; unfold Four at hHeld) | (refine (T4.out.dump rfl).mono ?_; rintro e w8 ⟨rfl, hz⟩; have T7 := Lib.hid hz; clear hz; refine hK.out _ _ T7.out.four ?_; clear hHeld; have hHeld := T7.out.four; unfold Four at hHeld))
                         | (go_at_call 11; first | (have h := T9; clear h; refine T8.out.symm.level.mono ?_; rintro e w10 ⟨rfl, rfl⟩; refine hK.out _ _ hHeld ?_) | (refine T8.out.level.mono ?_; rintro e w10 ⟨rfl, rfl⟩; have T9 := T8; refine hK.out _ _ hHeld ?_))
                       clear hK K
                       (try simp only [Act.put, List.setIfInBounds_toArray, List.set_cons_zero, List.set_cons_succ])))
                  refine wpSched_calm ?_
                  go_wp2_with fail
                  go_roundw
                  case rel => exact ⟨k + 1, _, by omega, by go_num, T8.out.rest, by have := HO.out; have := Wt_out (s.Rd of wd) of wd x; rw [Rd_out] at this; (try rw [inp_out]); omega⟩
                  case measure => simp [intOf]; omega
              · have HB3 := Lib.hid hst
                clear hst
                obtain rfl : k = n2 := by omega
                clear hout hlt k1
                go_wp2_with (first | (go_at_call 16; first | (have h := T1; clear h; refine (T1.out.symm.take).mono ?_; rintro e w3 ⟨rfl, hz⟩; have T2 := Lib.hid hz.symm; clear hz) | (refine HB3.out.take.mono ?_; rintro e w2 ⟨rfl, hz⟩; have T1 := Lib.hid hz; clear hz)) | (go_at_call 8; refine (awake_any _).mono ?_; rintro e w9 ⟨rfl, bel9⟩))
                go_ret
                exact ⟨rfl, T2.out.bel.trans (bel9.mono T2.out.bel.size)⟩
          · have hD3 := bytes_ne hD
            go_wp2_with (first | (go_at_call 16; first | (have h := T1; clear h; refine (T1.out.symm.take).mono ?_; rintro e w3 ⟨rfl, hz⟩; have T2 := Lib.hid hz.symm; clear hz) | (refine HB2.out.take.mono ?_; rintro e w2 ⟨rfl, hz⟩; have T1 := Lib.hid hz; clear hz)) | (go_at_call 14; first | (have h := T3; clear h; refine (T3.out.symm.dump HDB.out).mono ?_; rintro e w5 ⟨rfl, hz⟩; have T4 := Lib.hid hz.symm; clear hz) | (refine (T2.out.dump HDA.out).mono ?_; rintro e w4 ⟨rfl, hz⟩; have T3 := Lib.hid hz; clear hz)) | (go_at_call 8; refine (awake_any _).mono ?_; rintro e w9 ⟨rfl, bel9⟩))
            go_ret
            exact ⟨rfl, T4.out.bel.trans (bel9.mono T4.out.bel.size)⟩
end Go.Proofs.Ytagcmajiomhbdaa
