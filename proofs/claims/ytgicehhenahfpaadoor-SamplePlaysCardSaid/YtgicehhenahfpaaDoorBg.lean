/- SamplePlays' body. -/
import Derived.Test.YtgicehhenahfpaaDoorBf
set_option linter.unusedVariables false
set_option linter.unusedSimpArgs false
namespace Go.Proofs.YtgicehhenahfpaaDoor
open Go.RowKit
attribute [local go_sem] Oper.semAt_some
section
variable {m v : Int} {n C : Nat} {w : World} {o : Option Msg}
theorem copyO_any (hb : Box w C 56 (chanO m v n o)) : Calls Tryd.prog 9 #[.pointer (some ⟨C, 0, none⟩)] w fun e w' => e = .returned (.pointer (some ⟨w.heap.size, 0, none⟩)) ∧ Box w' w.heap.size 56 (chanO m v n o) ∧ Below w.heap.size w w' := by
  rcases o with _ | ⟨t, s, R⟩ <;> exact copy_any hb
theorem old_write (hb : Box w C 56 (chanO m v n o)) (hm : 1 ≤ m) (hn : n ≤ 16) (t : Nat) : Calls Tryd.prog 11 #[.pointer (some ⟨C, 0, none⟩), .int .u64 t, .string ⟨#[]⟩] w fun e w' => (∃ z, e = .returned (.int .i64 z)) ∧ Only C w w' := by
  have hs : ((⟨#[]⟩ : ByteArray).size : Int) = 0 := rfl
  rcases o with _ | ⟨t0, s0, R0⟩
  · refine (write_ok hb t ⟨#[]⟩ (by omega) (by omega) (by omega)).mono ?_
    rintro e w' ⟨rfl, _, h2⟩
    exact ⟨⟨_, rfl⟩, h2⟩
  · refine (write_ok hb t ⟨#[]⟩ (by omega) (by omega) (by omega)).mono ?_
    rintro e w' ⟨rfl, _, h2⟩
    exact ⟨⟨_, rfl⟩, h2⟩
end
section
variable {m v : Int} {n : Nat} {a : Option Addr} {len cap : Nat} {l : List Deed} {w : World}
set_option maxHeartbeats 16000000 in
set_option maxRecDepth 100000 in
theorem plays_all (g : Good m n) (hl : IsDeeds w a len l) (hf : fewB len l = true) (hv0 : 0 ≤ v) (hv1 : v ≤ 4294967295) (htab : Lib.TabIs Tryd.prog w "internal/strconv.uint64pow10" .u64 Lib.pow10Tab) :
    Calls Tryd.prog 3 #[.agg #[.int .i64 m, .int .u32 v, .int .i64 n], .slice a len cap] w (Yes w) := by
  have hX := Box.made w 24 #[.int .i64 m, .int .u32 v, .int .i64 n]
  have x0 := hX.read 0
  have x1 := hX.read 1
  have x2 := hX.read 2
  have HN := Lib.hid fun W => new_at v g W
  have HM := Lib.hid fun W => may_yes g W
  have T0 : Hid (Below w.heap.size w (w.alloc (.cells #[.int .i64 m, .int .u32 v, .int .i64 n] 24))) := Lib.hid ((Below.refl _ _).alloc (Nat.le_refl _) _)
  have HX := Lib.hid hX
  have HF := Lib.hid fun W (hb : Below w.heap.size w W) => few_any a len cap l W (hl.later hb)
  rw [hf] at HF
  have hFl := few_true hl.1 hf
  have hlen := hFl.1
  have HFl := Lib.hid hFl.2
  have HL := Lib.hid hl.1
  have LA := Lib.hid fun wx (bel : Below w.heap.size w wx) => hl.later bel
  have HTB := Lib.hid htab
  have hn16 : n ≤ 16 := by have := g.2.2.2; omega
  have hn1 : 1 ≤ n := by have := g.2.2.1; omega
  have hm1 : 1 ≤ m := g.1
  clear g hX hl hf hFl htab
  simp only [List.getElem?_toArray, List.getElem?_cons_zero, List.getElem?_cons_succ] at x0 x1 x2
  go_enter Tryd.func3, Tryd.ntmps3
  go_wp2_with (first
    | (refine wpList_build_to rfl 36 _ rfl (dch m v n (.slice none 0 0)) (by kernel_rfl) ?_)
    | (go_at_call 7; refine (HF.out _ T1.out).mono ?_; rintro e w1 ⟨rfl, rfl⟩)
    | (go_at_call 6; refine (HM.out _).mono ?_; rintro e w1 ⟨rfl, rfl⟩)
    | (go_at_call 5; refine (HN.out _).mono ?_; rintro e w1 ⟨C1, rfl, hb1, hC1, bl1⟩; have T1 := Lib.hid (T0.out.trans (bl1.mono T0.out.size)); have hX1 := HX.out.over bl1 HX.out.inHeap; have HD := Lib.hid (And.intro hb1 (Nat.le_trans T0.out.size hC1)); have y0 := hX1.read 0; have y1 := hX1.read 1; have y2 := hX1.read 2; simp only [List.getElem?_toArray, List.getElem?_cons_zero, List.getElem?_cons_succ] at y0 y1 y2; clear hX1 bl1 hC1 hb1))
  have hs1 : (w1.alloc (.cells (dch m v n (.slice none 0 0)) 36)).heap.size = w1.heap.size + 1 := by simp
  have P1 : Pr (w1.alloc (.cells (dch m v n (.slice none 0 0)) 36)) C1 w1.heap.size (w1.heap.size + 1) m v n 0 none := ⟨HD.out.1.more _, Box.made _ _ _, trivial, by omega⟩
  have T2 : Hid (Below w.heap.size w (w1.alloc (.cells (dch m v n (.slice none 0 0)) 36))) := Lib.hid (T1.out.alloc T1.out.size _)
  have hC1 : C1 < w1.heap.size + 1 := by have := HD.out.1.inHeap; omega
  have hwC : w.heap.size ≤ C1 ∧ w.heap.size ≤ w1.heap.size ∧ w.heap.size ≤ w1.heap.size + 1 := ⟨HD.out.2, T1.out.size, by have := T1.out.size; omega⟩
  clear x0 x1 x2 y0 y1 y2 T0 T1 HX HD HN HM HF
  generalize (w1.alloc (.cells (dch m v n (.slice none 0 0)) 36)) = w2 at P1 T2 hs1 ⊢
  generalize hHe : w1.heap.size + 1 = H1 at P1 hC1 hwC hs1
  generalize w1.heap.size = B1 at P1 hwC ⊢
  clear hHe hs1
  go_loopw [5, 7, 8] (fun c r i wr => ∃ (k C B H : Nat) (o : Option Msg), k ≤ len ∧ c = .pointer (some ⟨C, 0, none⟩) ∧ r = .pointer (some ⟨B, 0, none⟩) ∧ i = .int .i64 k ∧ Pr wr C B H m v n k o ∧ C < H ∧ (w.heap.size ≤ C ∧ w.heap.size ≤ B ∧ w.heap.size ≤ H) ∧ Below w.heap.size w wr) (fun _ _ i _ => len - (intOf i).toNat)
  case atStart => exact ⟨0, C1, B1, H1, none, Nat.zero_le _, rfl, rfl, rfl, P1, hC1, hwC, T2.out⟩
  case round =>
    obtain ⟨k, C, B, H, o, hk, rfl, rfl, rfl, hP, hCH, hbd, hBW⟩ := hrel
    clear P1 hC1 hwC T2
    have k1 : (0 : Int) ≤ (k : Int) := Int.natCast_nonneg _
    by_cases hlt : k < len
    · obtain ⟨⟨what, at0, wd, s⟩, hk2⟩ : ∃ f, l[k]? = some f := ⟨_, List.getElem?_eq_getElem (by rw [HL.out]; exact hlt)⟩
      obtain ⟨b, off, rfl, hbb, c0, c1, c2, c3, hn1', hn2⟩ := (LA.out wr hBW).2 k ⟨what, at0, wd, s⟩ hk2
      have LC : Hid (∀ W, Below w.heap.size w W → W.cell? ⟨b, off + k * 4 + 1, none⟩ = some (.int .u64 at0)) := Lib.hid fun W hb => by
        obtain ⟨b', off', e, _, _, g1, _⟩ := (LA.out W hb).2 k _ hk2
        cases e
        rw [Nat.mul_comm] at g1
        exact g1
      simp only at c0 c1 c2 c3 hn1' hn2
      rw [Nat.mul_comm] at c0 c1 c2 c3
      have k2 : (k : Int) < (len : Int) := by omega
      have hr1 : (what : Int) % 5 = ((what % 5 : Nat) : Int) := rfl
      have hr2 : (what : Int).tmod 5 = ((what % 5 : Nat) : Int) := rfl
      have hr5 : what % 5 < 5 := Nat.mod_lt _ (by decide)
      have hcnt : k + 1 ≤ 1048576 := by omega
      have HS := Lib.hid (HFl.out k _ hk2)
      have HP := Lib.hid hP
      have HB := Lib.hid hBW
      clear hk2 hbb hP hBW
      by_cases h4 : what % 5 = 4
      · have q4 : (((what % 5 : Nat) : Int) == 4) = true := by rw [h4]; rfl
        generalize what % 5 = r at hr1 hr2 q4
        clear hr5 h4
        go_wp2_with (first
          | (go_at_call 11; refine (old_write HO.out hm1 hn16 at0).mono ?_; rintro e w5 ⟨⟨z, rfl⟩, hO⟩; have H5 := Lib.hid hO; clear hO)
          | (go_at_call 10; refine (dcopy_any (H3.out.1.doc) (by omega)).mono ?_; rintro e w4 ⟨B', rfl, hD, hBB, hbl⟩; have H4 := Lib.hid (And.intro hD (And.intro hBB hbl)); have HO := Lib.hid ((H3.out.1.below hbl).prog); have d1 := LC.out _ (H3.out.2.2.trans (hbl.mono H3.out.2.2.size)); clear hD hBB hbl)
          | (go_at_call 9; refine (copyO_any HP.out.prog).mono ?_; rintro e w3 ⟨rfl, hb3, hbl⟩; have H3 := Lib.hid (And.intro (HP.out.below hbl) (And.intro hb3 (HB.out.trans (hbl.mono HB.out.size)))); clear hb3 hbl))
        have PW : Hid (Pr w5 wr.heap.size B' w3.heap.size m v n (k + 1) o ∧ wr.heap.size < w3.heap.size ∧ Below w.heap.size w w5) := Lib.hid (by
          have hoC : wr.heap.size ≠ C := fun e => by have := HP.out.prog.inHeap; omega
          have hpr : Box w4 wr.heap.size 56 (chanO m v n o) := H3.out.2.1.over H4.out.2.2 H3.out.2.1.inHeap
          exact ⟨⟨hpr.only H5.out hoC, (H4.out.1.only H5.out HO.out).mono (Nat.le_succ _), HP.out.ok, Nat.le_trans H4.out.2.2.size H5.out.size⟩, H3.out.2.1.inHeap,
            (H3.out.2.2.trans (H4.out.2.2.mono H3.out.2.2.size)).trans (H5.out.below hbd.1 (Nat.le_trans H3.out.2.2.size H4.out.2.2.size))⟩)
        have hbds : w.heap.size ≤ wr.heap.size ∧ w.heap.size ≤ B' ∧ w.heap.size ≤ w3.heap.size := ⟨HB.out.size, Nat.le_trans H3.out.2.2.size H4.out.2.1, H3.out.2.2.size⟩
        generalize wr.heap.size = C' at PW hbds ⊢
        generalize w3.heap.size = H' at PW hbds
        clear c0 c1 c2 c3 d1 HP HB H3 H4 H5 HO hbd hCH LC HS q4 hr1 hr2
        have hWW := PW.out.2.2
        have HFp := Lib.hid fun W (k' : Int) (hb : Below w5.heap.size w5 W) => fresh_any ((PW.out.1.below hb).prog) hn16 k'
        have HFd := Lib.hid fun W (k' : Int) (hb : Below w5.heap.size w5 W) => dfresh_any ((PW.out.1.below hb).doc) hcnt k'
        have HTp := Lib.hid fun W (hb : Below w5.heap.size w5 W) => ptext_any ((PW.out.1.below hb).prog) hn1 hn16 PW.out.1.ok (tab_below HTB.out (hWW.trans (hb.mono hWW.size)))
        have HTd := Lib.hid fun W (hb : Below w5.heap.size w5 W) => dtext_any ((PW.out.1.below hb).doc) hcnt hn16 PW.out.1.ok
        have htell : ((st (tellL n o)).toList != (st (tellL n o)).toList) = false := bne_self_eq_false _
        clear hWW
        go_wp2
        go_loopw [10] (fun i w6 => ∃ k' : Int, i = .int .i64 k' ∧ -1 ≤ k' ∧ k' ≤ 17 ∧ ∃ j, w6 = w5.drewN j) (fun i _ => (17 - intOf i).toNat)
        case atStart => exact ⟨-1, rfl, by omega, by omega, 0, (World.drewN_zero _).symm⟩
        case round =>
          obtain ⟨k', rfl, h1, h2, j, rfl⟩ := hrel
          have hbj : Below w5.heap.size w5 (w5.drewN j) := below_drawn (Below.refl _ _) j
          by_cases h17 : k' < 17
          · have hff : (freshD n o k' != freshD n o k') = false := bne_self_eq_false _
            have HA := Lib.hid (HFp.out _ k' hbj)
            have HB := Lib.hid (HFd.out _ k' hbj)
            clear hbj
            generalize freshD n o k' = fb at hff HA HB
            cases fb
            all_goals
              go_wp2_with (first
                | (go_at_call 13; refine HA.out.mono ?_; rintro e w7 ⟨rfl, rfl⟩)
                | (go_at_call 14; refine HB.out.mono ?_; rintro e w7 ⟨rfl, j7, rfl⟩))
              go_roundw
              case rel => exact ⟨k' + 1, by go_num, by omega, by omega, j + j7, rfl⟩
              case measure => simp [intOf]; omega
          · have HBJ := Lib.hid hbj
            clear hbj
            generalize w5.drewN j = w8 at HBJ ⊢
            go_wp2_with (first
              | (go_at_call 15; refine (HTp.out _ HBJ.out).mono ?_; rintro e w9 ⟨rfl, hz⟩; have T9 := Lib.hid (HBJ.out.trans (hz.mono HBJ.out.size)); clear hz)
              | (go_at_call 16; refine (HTd.out _ T9.out).mono ?_; rintro e w10 ⟨rfl, hz⟩; have T10 := Lib.hid (T9.out.trans (hz.mono T9.out.size)); clear hz))
            go_roundw
            case rel => exact ⟨k + 1, C', B', H', o, by omega, rfl, rfl, by go_num, PW.out.1.below T10.out, PW.out.2.1, hbds, PW.out.2.2.trans (T10.out.mono PW.out.2.2.size)⟩
            case measure => simp [intOf]; omega
      · have q4 : (((what % 5 : Nat) : Int) == 4) = false := beq_eq_false_iff_ne.2 (by omega)
        by_cases h2 : what % 5 < 2
        · have HO := Lib.hid (one_write HP.out hCH hn16 (by omega) what at0 s wd hn1' h2 hn2 (by have := HS.out; simp only at this; omega))
          generalize what % 5 = r at hr1 hr2 q4
          clear hr5 h4 h2
          go_wp2_with (go_at_call 12; refine HO.out.mono ?_; rintro e w5 ⟨rfl, o5, hz, hz2⟩; have T5 := Lib.hid (And.intro hz hz2); clear hz hz2)
          have PW : Hid (Pr w5 C B H m v n (k + 1) o5 ∧ C < H ∧ Below w.heap.size w w5) := Lib.hid ⟨T5.out.1, hCH, HB.out.trans (T5.out.2.below (fun j hj => by rcases hj with e | e | e <;> omega) HB.out.size)⟩
          have hbds := hbd
          clear c0 c1 c2 c3 HP HB T5 HO hbd hCH LC HS q4 hr1 hr2
          have hWW := PW.out.2.2
          have HFp := Lib.hid fun W (k' : Int) (hb : Below w5.heap.size w5 W) => fresh_any ((PW.out.1.below hb).prog) hn16 k'
          have HFd := Lib.hid fun W (k' : Int) (hb : Below w5.heap.size w5 W) => dfresh_any ((PW.out.1.below hb).doc) hcnt k'
          have HTp := Lib.hid fun W (hb : Below w5.heap.size w5 W) => ptext_any ((PW.out.1.below hb).prog) hn1 hn16 PW.out.1.ok (tab_below HTB.out (hWW.trans (hb.mono hWW.size)))
          have HTd := Lib.hid fun W (hb : Below w5.heap.size w5 W) => dtext_any ((PW.out.1.below hb).doc) hcnt hn16 PW.out.1.ok
          have htell : ((st (tellL n o5)).toList != (st (tellL n o5)).toList) = false := bne_self_eq_false _
          clear hWW
          go_wp2
          go_loopw [10] (fun i w6 => ∃ k' : Int, i = .int .i64 k' ∧ -1 ≤ k' ∧ k' ≤ 17 ∧ ∃ j, w6 = w5.drewN j) (fun i _ => (17 - intOf i).toNat)
          case atStart => exact ⟨-1, rfl, by omega, by omega, 0, (World.drewN_zero _).symm⟩
          case round =>
            obtain ⟨k', rfl, h1, h2, j, rfl⟩ := hrel
            have hbj : Below w5.heap.size w5 (w5.drewN j) := below_drawn (Below.refl _ _) j
            by_cases h17 : k' < 17
            · have hff : (freshD n o5 k' != freshD n o5 k') = false := bne_self_eq_false _
              have HA := Lib.hid (HFp.out _ k' hbj)
              have HB := Lib.hid (HFd.out _ k' hbj)
              clear hbj
              generalize freshD n o5 k' = fb at hff HA HB
              cases fb
              all_goals
                go_wp2_with (first
                  | (go_at_call 13; refine HA.out.mono ?_; rintro e w7 ⟨rfl, rfl⟩)
                  | (go_at_call 14; refine HB.out.mono ?_; rintro e w7 ⟨rfl, j7, rfl⟩))
                go_roundw
                case rel => exact ⟨k' + 1, by go_num, by omega, by omega, j + j7, rfl⟩
                case measure => simp [intOf]; omega
            · have HBJ := Lib.hid hbj
              clear hbj
              generalize w5.drewN j = w8 at HBJ ⊢
              go_wp2_with (first
                | (go_at_call 15; refine (HTp.out _ HBJ.out).mono ?_; rintro e w9 ⟨rfl, hz⟩; have T9 := Lib.hid (HBJ.out.trans (hz.mono HBJ.out.size)); clear hz)
                | (go_at_call 16; refine (HTd.out _ T9.out).mono ?_; rintro e w10 ⟨rfl, hz⟩; have T10 := Lib.hid (T9.out.trans (hz.mono T9.out.size)); clear hz))
              go_roundw
              case rel => exact ⟨k + 1, C, B, H, o5, by omega, rfl, rfl, by go_num, PW.out.1.below T10.out, PW.out.2.1, hbds, PW.out.2.2.trans (T10.out.mono PW.out.2.2.size)⟩
              case measure => simp [intOf]; omega
        · have HO := Lib.hid (one_read HP.out hCH hn16 (by omega) hv0 hv1 what at0 s wd hn1' h2 hn2)
          generalize what % 5 = r at hr1 hr2 q4
          clear hr5 h4 h2
          go_wp2_with (go_at_call 12; refine HO.out.mono ?_; rintro e w5 ⟨rfl, o5, hz, hz2⟩; have T5 := Lib.hid (And.intro hz hz2); clear hz hz2)
          have PW : Hid (Pr w5 C B H m v n (k + 1) o5 ∧ C < H ∧ Below w.heap.size w w5) := Lib.hid ⟨T5.out.1, hCH, HB.out.trans (T5.out.2.below (fun j hj => by rcases hj with e | e | e <;> omega) HB.out.size)⟩
          have hbds := hbd
          clear c0 c1 c2 c3 HP HB T5 HO hbd hCH LC HS q4 hr1 hr2
          have hWW := PW.out.2.2
          have HFp := Lib.hid fun W (k' : Int) (hb : Below w5.heap.size w5 W) => fresh_any ((PW.out.1.below hb).prog) hn16 k'
          have HFd := Lib.hid fun W (k' : Int) (hb : Below w5.heap.size w5 W) => dfresh_any ((PW.out.1.below hb).doc) hcnt k'
          have HTp := Lib.hid fun W (hb : Below w5.heap.size w5 W) => ptext_any ((PW.out.1.below hb).prog) hn1 hn16 PW.out.1.ok (tab_below HTB.out (hWW.trans (hb.mono hWW.size)))
          have HTd := Lib.hid fun W (hb : Below w5.heap.size w5 W) => dtext_any ((PW.out.1.below hb).doc) hcnt hn16 PW.out.1.ok
          have htell : ((st (tellL n o5)).toList != (st (tellL n o5)).toList) = false := bne_self_eq_false _
          clear hWW
          go_wp2
          go_loopw [10] (fun i w6 => ∃ k' : Int, i = .int .i64 k' ∧ -1 ≤ k' ∧ k' ≤ 17 ∧ ∃ j, w6 = w5.drewN j) (fun i _ => (17 - intOf i).toNat)
          case atStart => exact ⟨-1, rfl, by omega, by omega, 0, (World.drewN_zero _).symm⟩
          case round =>
            obtain ⟨k', rfl, h1, h2, j, rfl⟩ := hrel
            have hbj : Below w5.heap.size w5 (w5.drewN j) := below_drawn (Below.refl _ _) j
            by_cases h17 : k' < 17
            · have hff : (freshD n o5 k' != freshD n o5 k') = false := bne_self_eq_false _
              have HA := Lib.hid (HFp.out _ k' hbj)
              have HB := Lib.hid (HFd.out _ k' hbj)
              clear hbj
              generalize freshD n o5 k' = fb at hff HA HB
              cases fb
              all_goals
                go_wp2_with (first
                  | (go_at_call 13; refine HA.out.mono ?_; rintro e w7 ⟨rfl, rfl⟩)
                  | (go_at_call 14; refine HB.out.mono ?_; rintro e w7 ⟨rfl, j7, rfl⟩))
                go_roundw
                case rel => exact ⟨k' + 1, by go_num, by omega, by omega, j + j7, rfl⟩
                case measure => simp [intOf]; omega
            · have HBJ := Lib.hid hbj
              clear hbj
              generalize w5.drewN j = w8 at HBJ ⊢
              go_wp2_with (first
                | (go_at_call 15; refine (HTp.out _ HBJ.out).mono ?_; rintro e w9 ⟨rfl, hz⟩; have T9 := Lib.hid (HBJ.out.trans (hz.mono HBJ.out.size)); clear hz)
                | (go_at_call 16; refine (HTd.out _ T9.out).mono ?_; rintro e w10 ⟨rfl, hz⟩; have T10 := Lib.hid (T9.out.trans (hz.mono T9.out.size)); clear hz))
              go_roundw
              case rel => exact ⟨k + 1, C, B, H, o5, by omega, rfl, rfl, by go_num, PW.out.1.below T10.out, PW.out.2.1, hbds, PW.out.2.2.trans (T10.out.mono PW.out.2.2.size)⟩
              case measure => simp [intOf]; omega
    · have HB := Lib.hid hBW
      clear hP hBW hbd hCH
      obtain rfl : k = len := by omega
      clear hlt
      go_wp2_with (go_at_call 8; refine (works_any _).mono ?_; rintro e w9 ⟨rfl, bl9⟩)
      go_ret
      exact ⟨rfl, HB.out.trans (bl9.mono HB.out.size)⟩
end
end Go.Proofs.YtgicehhenahfpaaDoor
