/- SampleSame's body. -/
import Derived.Test.YtgicehhenahfpaaAi
set_option linter.unusedVariables false
set_option linter.unusedSimpArgs false
namespace Go.Proofs.Ytgicehhenahfpaa
open Go.RowKit
attribute [local go_sem] Oper.semAt_some
theorem two_docs {W : World} {m1 v1 m2 v2 : Int} {n1 n2 C1 C2 : Nat} (h1 : Box W C1 57 (chan m1 v1 n1 false 0 ⟨#[]⟩ fresh0)) (h2 : Box W C2 57 (chan m2 v2 n2 false 0 ⟨#[]⟩ fresh0)) :
    Pr ((W.alloc (.cells (dch m1 v1 n1 (.slice none 0 0)) 36)).alloc (.cells (dch m2 v2 n2 (.slice none 0 0)) 36)) C1 W.heap.size (W.heap.size + 2) m1 v1 n1 0 none ∧
    Pr ((W.alloc (.cells (dch m1 v1 n1 (.slice none 0 0)) 36)).alloc (.cells (dch m2 v2 n2 (.slice none 0 0)) 36)) C2 (W.heap.size + 1) (W.heap.size + 2) m2 v2 n2 0 none ∧
    Below W.heap.size W ((W.alloc (.cells (dch m1 v1 n1 (.slice none 0 0)) 36)).alloc (.cells (dch m2 v2 n2 (.slice none 0 0)) 36)) ∧ ((W.alloc (.cells (dch m1 v1 n1 (.slice none 0 0)) 36)).alloc (.cells (dch m2 v2 n2 (.slice none 0 0)) 36)).heap.size = W.heap.size + 2 := by
  have hs : (W.alloc (.cells (dch m1 v1 n1 (.slice none 0 0)) 36)).heap.size = W.heap.size + 1 := by simp
  have hb : Box ((W.alloc (.cells (dch m1 v1 n1 (.slice none 0 0)) 36)).alloc (.cells (dch m2 v2 n2 (.slice none 0 0)) 36)) (W.heap.size + 1) 36 (dch m2 v2 n2 (.slice none 0 0)) := hs ▸ Box.made _ _ _
  exact ⟨⟨(h1.more _).more _, (Box.made W 36 _).more _, trivial, by simp⟩, ⟨(h2.more _).more _, hb, trivial, by simp⟩, ((Below.refl _ _).alloc (Nat.le_refl _) _).alloc (by simp) _, by simp⟩
section
variable {m1 v1 m2 v2 : Int} {n1 n2 : Nat} {a a' : Option Addr} {len len' cap cap' : Nat} {l l' : List Deed} {w : World}
set_option maxHeartbeats 8000000 in
set_option maxRecDepth 100000 in
theorem same_all (g : Good m1 n1) (g2 : Good m2 n2) (hl : IsDeeds w a len l) (hl' : IsDeeds w a' len' l') (hf : fewB len l = true) (hf' : fewB len' l' = true) (hv0 : 0 ≤ v1) (hv1 : v1 ≤ 4294967295) (hu0 : 0 ≤ v2) (hu1 : v2 ≤ 4294967295) : Calls Try.prog 3 #[.agg (shapes m1 v1 n1 m2 v2 n2), .slice a len cap, .slice a' len' cap'] w (Yes w) := by
  have hX := Box.made w 25 (shapes m1 v1 n1 m2 v2 n2)
  have x0 := hX.read 0
  have x1 := hX.read 1
  have x2 := hX.read 2
  have HN := Lib.hid fun W => new_at v1 g W
  have T0 : Hid (Below w.heap.size w (w.alloc (.cells (shapes m1 v1 n1 m2 v2 n2) 25))) := Lib.hid ((Below.refl _ _).alloc (Nat.le_refl _) _)
  have HX := Lib.hid hX
  have HF := Lib.hid fun W (hb : Below w.heap.size w W) => few_any a len cap l W (hl.later hb)
  have HG := Lib.hid fun W (hb : Below w.heap.size w W) => few_any a' len' cap' l' W (hl'.later hb)
  rw [hf] at HF
  rw [hf'] at HG
  have hFl := few_true hl.1 hf
  have hFl' := few_true hl'.1 hf'
  have hlen := hFl.1
  have hlen' := hFl'.1
  have HFl := Lib.hid hFl.2
  have HFl' := Lib.hid hFl'.2
  have HL := Lib.hid hl.1
  have HL' := Lib.hid hl'.1
  have LA := Lib.hid fun wx (bel : Below w.heap.size w wx) => hl.later bel
  have LB := Lib.hid fun wx (bel : Below w.heap.size w wx) => hl'.later bel
  have hN1 : n1 ≤ 16 := by have := g.2.2.2; omega
  have hN2 : n2 ≤ 16 := by have := g2.2.2.2; omega
  clear hX hl hl' hf hf' hFl hFl'
  simp only [shapes, List.getElem?_toArray, List.getElem?_cons_zero, List.getElem?_cons_succ] at x0 x1 x2 HX ⊢
  go_enter Try.func3, Try.ntmps3
  go_wp2_with (first
    | (refine wpList_build_to rfl 36 _ rfl (dch m2 v2 n2 (.slice none 0 0)) (by kernel_rfl) ?_; have BB2 := BB1)
    | (refine wpList_build_to rfl 36 _ rfl (dch m1 v1 n1 (.slice none 0 0)) (by kernel_rfl) ?_; have BB1 := True.intro)
    | (go_at_call 8; refine (HG1.out).mono ?_; rintro e w3 ⟨rfl, rfl⟩)
    | (go_at_call 8; refine (HF.out _ T2.out).mono ?_; rintro e w3 ⟨rfl, rfl⟩; have HG1 := Lib.hid (HG.out _ T2.out))
    | (go_at_call 7; refine (HM.out _).mono ?_; rintro e w2 ⟨C2, rfl, hb2, hC2, bl2⟩; have T2 := Lib.hid (T1.out.trans (bl2.mono T1.out.size)); have hX2 := HX1.out.over bl2 HX1.out.inHeap; have HB1 := Lib.hid ((And.intro (HD.out.1.over bl2 HD.out.1.inHeap) (Nat.lt_of_lt_of_le HD.out.1.inHeap hC2))); have HB2 := Lib.hid (And.intro hb2 (Nat.le_trans T1.out.size hC2)); have z0 := hX2.read 0; have z1 := hX2.read 1; have z2 := hX2.read 2; have z3 := fun o => (hX2.more o).read 3; have z4 := fun o => (hX2.more o).read 4; have z5 := fun o => (hX2.more o).read 5; simp only [List.getElem?_toArray, List.getElem?_cons_zero, List.getElem?_cons_succ] at z0 z1 z2 z3 z4 z5; clear bl2 hC2 hb2 hX2)
    | (go_at_call 7; refine (HN.out _).mono ?_; rintro e w1 ⟨C1, rfl, hb1, hC1, bl1⟩; have T1 := Lib.hid (T0.out.trans (bl1.mono T0.out.size)); have HD := Lib.hid (And.intro hb1 (Nat.le_trans T0.out.size hC1)); have hX1 := HX.out.over bl1 HX.out.inHeap; have HX1 := Lib.hid hX1; have y3 := hX1.read 3; have y4 := hX1.read 4; have y5 := hX1.read 5; simp only [List.getElem?_toArray, List.getElem?_cons_zero, List.getElem?_cons_succ] at y3 y4 y5; clear hX1 bl1 hC1 hb1; have HM := Lib.hid fun W => new_at v2 g2 W))
  have D := two_docs HB1.out.1 HB2.out.1
  have D1 := Lib.hid (And.intro HB1.out.2 (And.intro HD.out.2 HB2.out.2))
  have hT2 := T2.out
  clear x0 x1 x2 y3 y4 y5 z0 z1 z2 z3 z4 z5 T0 T1 T2 HX HX1 HB1 HB2 HD HN HM HF HG HG1
  generalize ((w2.alloc (.cells (dch m1 v1 n1 (.slice none 0 0)) 36)).alloc (.cells (dch m2 v2 n2 (.slice none 0 0)) 36)) = w4 at D ⊢
  have TW : Hid (Below w.heap.size w w4) := Lib.hid (hT2.trans (D.2.2.1.mono hT2.size))
  have hwB := hT2.size
  have hs4 := D.2.2.2
  generalize hB2 : w2.heap.size + 1 = B2 at D ⊢
  generalize hB1 : w2.heap.size = B1 at D hB2 hs4 hwB ⊢
  have hB12 : B1 + 1 ≤ B2 ∧ B2 + 1 ≤ B1 + 2 := by omega
  generalize hH : B1 + 2 = H at D hs4
  have hC1 : C1 < H ∧ C2 < H ∧ B1 < H ∧ B2 < H := by
    have h1 := D.1.prog.inHeap
    have h2 := D.2.1.prog.inHeap
    omega
  have DP1 := Lib.hid D.1
  have DP2 := Lib.hid D.2.1
  have hW4 : w4.heap.size ≤ H ∧ H ≤ w4.heap.size := by omega
  have hwC1 : w.heap.size ≤ C1 ∧ w.heap.size ≤ C2 ∧ C1 < C2 := by
    have := D1.out
    omega
  clear D hB1 hB2 hH hs4 D1 hT2
  go_loopw [13] (fun i wr => ∃ (k : Nat) (o : Option (Nat × ByteArray × List Int)), k ≤ len ∧ i = .int .i64 k ∧ Pr wr C1 B1 H m1 v1 n1 k o ∧ Touch (Kq C1 B1 H) w4 wr) (fun i _ => len - (intOf i).toNat)
  case atStart => exact ⟨0, none, Nat.zero_le _, rfl, DP1.out, Touch.refl _ _⟩
  case round =>
    obtain ⟨k, o, hk, rfl, hP, hT⟩ := hrel
    have k1 : (0 : Int) ≤ (k : Int) := Int.natCast_nonneg _
    have hBW : Below w.heap.size w wr := TW.out.trans (hT.below (fun j hj => by rcases hj with e | e | e <;> omega) TW.out.size)
    by_cases hlt : k < len
    · obtain ⟨⟨what, at0, wd, s⟩, hk2⟩ : ∃ f, l[k]? = some f := ⟨_, List.getElem?_eq_getElem (by rw [HL.out]; exact hlt)⟩
      obtain ⟨b, off, rfl, hbb, c0, c1, c2, c3, hn1, hn2⟩ := (LA.out wr (hBW)).2 k ⟨what, at0, wd, s⟩ hk2
      simp only at c0 c1 c2 c3 hn1 hn2
      rw [Nat.mul_comm] at c0 c1 c2 c3
      have k2 : (k : Int) < (len : Int) := by omega
      have hr1 : (what : Int) % 5 = ((what % 5 : Nat) : Int) := rfl
      have hr2 : (what : Int).tmod 5 = ((what % 5 : Nat) : Int) := rfl
      have hr5 : what % 5 < 5 := Nat.mod_lt _ (by decide)
      have HS := Lib.hid (HFl.out k _ hk2)
      have HP := Lib.hid hP
      have HT := Lib.hid hT
      clear hk2 hbb hP hT
      by_cases h4 : what % 5 = 4
      · have q4 : (((what % 5 : Nat) : Int) != 4) = false := by rw [h4]; rfl
        generalize what % 5 = r at hr1 hr2 q4
        clear hr5 h4
        go_wp2
        go_roundw
        case rel => exact ⟨k + 1, o, by omega, by go_num, HP.out.mono (Nat.le_succ _), HT.out⟩
        case measure => simp [intOf]; omega
      · have q4 : (((what % 5 : Nat) : Int) != 4) = true := bne_iff_ne.2 (by omega)
        by_cases h2 : what % 5 < 2
        · have HO := Lib.hid (one_write HP.out hC1.1 hN1 (by omega) what at0 s wd hn1 h2 hn2 (by have := HS.out; simp only at this; omega))
          generalize what % 5 = r at hr1 hr2 q4
          clear hr5 h4 h2
          go_wp2_with (go_at_call 10; refine HO.out.mono ?_; rintro e w5 ⟨rfl, o5, hz, hz2⟩; have T5 := Lib.hid (And.intro hz hz2); clear hz hz2)
          go_roundw
          case rel => exact ⟨k + 1, o5, by omega, by go_num, T5.out.1, HT.out.trans (T5.out.2.mono fun _ h => .inl h)⟩
          case measure => simp [intOf]; omega
        · have HO := Lib.hid (one_read HP.out hC1.1 hN1 (by omega) hv0 hv1 what at0 s wd hn1 h2 hn2)
          generalize what % 5 = r at hr1 hr2 q4
          clear hr5 h4 h2
          go_wp2_with (go_at_call 10; refine HO.out.mono ?_; rintro e w5 ⟨rfl, o5, hz, hz2⟩; have T5 := Lib.hid (And.intro hz hz2); clear hz hz2)
          go_roundw
          case rel => exact ⟨k + 1, o5, by omega, by go_num, T5.out.1, HT.out.trans (T5.out.2.mono fun _ h => .inl h)⟩
          case measure => simp [intOf]; omega

    · obtain rfl : k = len := by omega
      have HW := Lib.hid hBW
      have DQ2 : Hid (Pr wr C2 B2 wr.heap.size m2 v2 n2 0 none) := Lib.hid (by
        have h := Pr.touch DP2.out hT hW4.1 (by omega) (by omega) DP1.out.prog (show Box w4 B1 36 _ from DP1.out.doc)
        exact ⟨h.prog, h.doc, h.ok, Nat.le_refl _⟩)
      have hsz : C2 < wr.heap.size := DQ2.out.prog.inHeap
      have DQ1 := Lib.hid hP
      have hwr := hBW.size
      clear hlt hP hT hBW
      obtain ⟨w5, hw5⟩ : ∃ w5, w5 = wr := ⟨_, rfl⟩
      subst hw5
      go_wp2
      go_loopw [14] (fun i w6 => ∃ (k : Nat) (o : Option (Nat × ByteArray × List Int)), k ≤ len' ∧ i = .int .i64 k ∧ Pr w6 C2 B2 w5.heap.size m2 v2 n2 k o ∧ Touch (Kq C2 B2 w5.heap.size) w5 w6) (fun i _ => len' - (intOf i).toNat)
      case atStart => exact ⟨0, none, Nat.zero_le _, rfl, DQ2.out, Touch.refl _ _⟩
      case round =>
        obtain ⟨k, o', hk, rfl, hP, hT⟩ := hrel
        rename_i len0
        have k1 : (0 : Int) ≤ (k : Int) := Int.natCast_nonneg _
        have hBW : Below w.heap.size w wr := HW.out.trans (hT.below (fun j hj => by rcases hj with e | e | e <;> omega) HW.out.size)
        by_cases hlt : k < len'
        · obtain ⟨⟨what, at0, wd, s⟩, hk2⟩ : ∃ f, l'[k]? = some f := ⟨_, List.getElem?_eq_getElem (by rw [HL'.out]; exact hlt)⟩
          obtain ⟨b, off, rfl, hbb, c0, c1, c2, c3, hn1, hn2⟩ := (LB.out wr (hBW)).2 k ⟨what, at0, wd, s⟩ hk2
          simp only at c0 c1 c2 c3 hn1 hn2
          rw [Nat.mul_comm] at c0 c1 c2 c3
          have k2 : (k : Int) < (len' : Int) := by omega
          have hr1 : (what : Int) % 5 = ((what % 5 : Nat) : Int) := rfl
          have hr2 : (what : Int).tmod 5 = ((what % 5 : Nat) : Int) := rfl
          have hr5 : what % 5 < 5 := Nat.mod_lt _ (by decide)
          have HS := Lib.hid (HFl'.out k _ hk2)
          have HP := Lib.hid hP
          have HT := Lib.hid hT
          clear hk2 hbb hP hT
          by_cases h4 : what % 5 = 4
          · have q4 : (((what % 5 : Nat) : Int) != 4) = false := by rw [h4]; rfl
            generalize what % 5 = r at hr1 hr2 q4
            clear hr5 h4
            go_wp2
            go_roundw
            case rel => exact ⟨k + 1, o', by omega, by go_num, HP.out.mono (Nat.le_succ _), HT.out⟩
            case measure => simp [intOf]; omega
          · have q4 : (((what % 5 : Nat) : Int) != 4) = true := bne_iff_ne.2 (by omega)
            by_cases h2 : what % 5 < 2
            · have HO := Lib.hid (one_write HP.out hsz hN2 (by omega) what at0 s wd hn1 h2 hn2 (by have := HS.out; simp only at this; omega))
              generalize what % 5 = r at hr1 hr2 q4
              clear hr5 h4 h2
              go_wp2_with (go_at_call 10; refine HO.out.mono ?_; rintro e w5 ⟨rfl, o5, hz, hz2⟩; have T5 := Lib.hid (And.intro hz hz2); clear hz hz2)
              go_roundw
              case rel => exact ⟨k + 1, o5, by omega, by go_num, T5.out.1, HT.out.trans (T5.out.2.mono fun _ h => .inl h)⟩
              case measure => simp [intOf]; omega
            · have HO := Lib.hid (one_read HP.out hsz hN2 (by omega) hu0 hu1 what at0 s wd hn1 h2 hn2)
              generalize what % 5 = r at hr1 hr2 q4
              clear hr5 h4 h2
              go_wp2_with (go_at_call 10; refine HO.out.mono ?_; rintro e w5 ⟨rfl, o5, hz, hz2⟩; have T5 := Lib.hid (And.intro hz hz2); clear hz hz2)
              go_roundw
              case rel => exact ⟨k + 1, o5, by omega, by go_num, T5.out.1, HT.out.trans (T5.out.2.mono fun _ h => .inl h)⟩
              case measure => simp [intOf]; omega

        · obtain rfl : k = len' := by omega
          have DR1 := Lib.hid (Pr.touch DQ1.out hT (Nat.le_refl _) (by omega) (by omega) DQ2.out.prog (show Box w5 B2 36 _ from DQ2.out.doc))
          have DR2 := Lib.hid hP
          have HE := Lib.hid hBW
          have hself : (sameO m1 v1 n1 o m2 v2 n2 o' == sameO m1 v1 n1 o m2 v2 n2 o') = true := by simp
          have HS1 := Lib.hid fun W (hb : Below wr.heap.size wr W) => sameO_any (DR1.out.below hb).prog (DR2.out.below hb).prog
          have HS2 := Lib.hid fun W (hb : Below wr.heap.size wr W) => dsame_any (DR1.out.below hb).doc (DR2.out.below hb).doc (by omega) (by omega) hN1 DR1.out.ok DR2.out.ok
          have HS3 := Lib.hid fun W (hb : Below wr.heap.size wr W) => copyO_any (DR1.out.below hb).prog
          generalize sameO m1 v1 n1 o m2 v2 n2 o' = bb at HS1 HS2 hself
          clear hlt hP hT hBW

          go_wp2_with (first
            | (go_at_call 9; refine (works_any _).mono ?_; rintro e w9 ⟨rfl, bl9⟩)
            | (go_at_call 11; refine (HC2.out).mono ?_; rintro e w8 ⟨rfl, j8, rfl⟩)
            | (go_at_call 13; refine (HS3.out _ K2.out).mono ?_; rintro e w8 ⟨rfl, hb8, bl8⟩; have K3 := Lib.hid (K2.out.trans (bl8.mono K2.out.size)); have HC2 := Lib.hid (sameO_any (DR1.out.below K3.out).prog hb8); clear bl8 hb8; rw [sameO_self hN1] at HC2)
            | (go_at_call 12; refine (HS2.out _ K1.out).mono ?_; rintro e w7 ⟨rfl, bl7⟩; have K2 := Lib.hid (K1.out.trans (bl7.mono K1.out.size)); clear bl7)
            | (go_at_call 11; refine (HS1.out _ (Below.refl _ _)).mono ?_; rintro e w7 ⟨rfl, j7, rfl⟩; have K1 := Lib.hid (below_drawn (Below.refl wr.heap.size wr) j7)))
          go_ret
          exact ⟨rfl, HE.out.trans (((below_drawn K3.out j8).trans (bl9.mono K3.out.size)).mono HE.out.size)⟩
end
end Go.Proofs.Ytgicehhenahfpaa
