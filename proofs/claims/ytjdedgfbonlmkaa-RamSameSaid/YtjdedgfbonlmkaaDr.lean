/- RamSame's body. -/
import Derived.Test.YtjdedgfbonlmkaaDq
set_option linter.unusedVariables false
set_option linter.unusedSimpArgs false
namespace Go.Proofs.Ytjdedgfbonlmkaa
open Go.RowKit
set_option maxHeartbeats 8000000 in
set_option maxRecDepth 200000 in
theorem same_any (x0 x1 : Nat) (hx0 : x0 < 256) (hx1 : x1 < 256) (a0 : Option Addr) (len0 cap0 : Nat) (a1 : Option Addr) (len1 cap1 : Nat) (l0 l1 : List Deed) (w : World) (h0 : IsDeeds w a0 len0 l0) (h1 : IsDeeds w a1 len1 l1) :
    Calls Try.prog 4 #[.slice a0 len0 cap0, .slice a1 len1 cap1, .agg #[.int .u8 x0, .int .u8 x1]] w (Yes w) := by
  obtain ⟨P, hP, hP1, hP2⟩ : ∃ P : Nat, 1 + (x0 : Int) % 2 = (P : Int) ∧ 1 ≤ P ∧ P ≤ 16 := ⟨1 + x0 % 2, by omega, by omega, by omega⟩
  obtain ⟨Q, hQ, hQ1, hQ2⟩ : ∃ Q : Nat, 1 + (x1 : Int) % 2 = (Q : Int) ∧ 1 ≤ Q ∧ Q ≤ 16 := ⟨1 + x1 % 2, by omega, by omega, by omega⟩
  have hc0 := fun wx (h : Below w.heap.size w wx) => few_any a0 len0 cap0 l0 wx (h0.later h)
  have hc1 := fun wx (h : Below w.heap.size w wx) => few_any a1 len1 cap1 l1 wx (h1.later h)
  have D0 := Lib.hid h0
  have D1 := Lib.hid h1
  have HL0 := Lib.hid h0.1
  have HL1 := Lib.hid h1.1
  generalize hb0 : fewB len0 l0 = b0 at hc0
  generalize hb1 : fewB len1 l1 = b1 at hc1
  have HF0 := Lib.hid hc0
  have HF1 := Lib.hid hc1
  have HB0 := Lib.hid hb0
  have HB1 := Lib.hid hb1
  have HNP := Lib.hid (fun wx => new_any P hP1 hP2 wx)
  have HNQ := Lib.hid (fun wx => new_any Q hQ1 hQ2 wx)
  have HDP := Lib.hid (fun wx hx => dnew_any P hP1 hP2 w.heap.size wx hx)
  have HDQ := Lib.hid (fun wx hx => dnew_any Q hQ1 hQ2 w.heap.size wx hx)
  have bl0 : Below w.heap.size w (w.alloc (.cells #[.int .u8 x0, .int .u8 x1] 47)) := (Below.refl _ _).alloc (Nat.le_refl _) _
  have bx0 := Box.made w 47 #[.int .u8 x0, .int .u8 x1]
  have HBL := Lib.hid bl0
  have p0 : (w.alloc (.cells #[.int .u8 x0, .int .u8 x1] 47)).cell? ⟨w.heap.size, 0, none⟩ = some (.int .u8 x0) := bx0.read 0
  have p1 : (w.alloc (.cells #[.int .u8 x0, .int .u8 x1] 47)).cell? ⟨w.heap.size, 1, none⟩ = some (.int .u8 x1) := bx0.read 1
  have HPP := Lib.hid (And.intro hP1 (And.intro hP2 (And.intro hQ1 hQ2)))
  clear hc0 hc1 hb0 hb1 h0 h1 hP1 hP2 hQ1 hQ2 bl0 bx0
  cases b0
  · go_enter Try.func4, Try.ntmps4
    go_wp2
    go_quiet (fail)
    clear p0 p1
    have HB := Lib.hid (below_drewN HBL.out nq)
    clear HBL
    generalize (w.alloc (.cells #[.int .u8 x0, .int .u8 x1] 47)).drewN nq = w0 at HB ⊢
    go_wp2_with (first
      | (go_at_call 11; refine (HDQ.out w3 H3.out.2.2.2).mono ?_; rintro e w4 ⟨rfl, hd, hb, hs⟩; have H4 := Lib.hid (Ta.start P Q HPP.out.2.1 HPP.out.2.2.2 HB.out H1.out.1 H1.out.2.1 H1.out.2.2 H2.out.1 H2.out.2.1 H2.out.2.2.1 H3.out.1 H3.out.2.1 H3.out.2.2.1 hd hb); clear hd hb hs)
      | (go_at_call 11; refine (HDP.out w2 H2.out.2.2.2).mono ?_; rintro e w3 ⟨rfl, hd, hb, hs⟩; have H3 := Lib.hid (And.intro hd (And.intro hb (And.intro hs (show w.heap.size ≤ w3.heap.size by have := H2.out.2.2.2; omega)))); clear hd hb hs)
      | (go_at_call 8; refine (HNQ.out w1).mono ?_; rintro e w2 ⟨rfl, hr, hb, hs⟩; have H2 := Lib.hid (And.intro hr (And.intro hb (And.intro hs (show w.heap.size ≤ w2.heap.size by have h1 := H1.out.2.2; have h0 := HB.out.size; omega)))); clear hr hb hs)
      | (go_at_call 8; refine (HNP.out w0).mono ?_; rintro e w1 ⟨rfl, hr, hb, hs⟩; have H1 := Lib.hid (And.intro hr (And.intro hb hs)); clear hr hb hs)
      | (go_at_call 9; refine (HF0.out _ H4.out.below).mono ?_; rintro e w' ⟨rfl, rfl⟩)
      | (go_at_call 10; refine (works_any _).mono ?_; rintro e w' ⟨rfl, bel⟩))
    go_ret
    exact ⟨rfl, H4.out.below.trans (bel.mono H4.out.below.size)⟩
  · cases b1
    · go_enter Try.func4, Try.ntmps4
      go_wp2
      go_quiet (fail)
      clear p0 p1
      have HB := Lib.hid (below_drewN HBL.out nq)
      clear HBL
      generalize (w.alloc (.cells #[.int .u8 x0, .int .u8 x1] 47)).drewN nq = w0 at HB ⊢
      go_wp2_with (first
        | (go_at_call 11; refine (HDQ.out w3 H3.out.2.2.2).mono ?_; rintro e w4 ⟨rfl, hd, hb, hs⟩; have H4 := Lib.hid (Ta.start P Q HPP.out.2.1 HPP.out.2.2.2 HB.out H1.out.1 H1.out.2.1 H1.out.2.2 H2.out.1 H2.out.2.1 H2.out.2.2.1 H3.out.1 H3.out.2.1 H3.out.2.2.1 hd hb); clear hd hb hs)
        | (go_at_call 11; refine (HDP.out w2 H2.out.2.2.2).mono ?_; rintro e w3 ⟨rfl, hd, hb, hs⟩; have H3 := Lib.hid (And.intro hd (And.intro hb (And.intro hs (show w.heap.size ≤ w3.heap.size by have := H2.out.2.2.2; omega)))); clear hd hb hs)
        | (go_at_call 8; refine (HNQ.out w1).mono ?_; rintro e w2 ⟨rfl, hr, hb, hs⟩; have H2 := Lib.hid (And.intro hr (And.intro hb (And.intro hs (show w.heap.size ≤ w2.heap.size by have h1 := H1.out.2.2; have h0 := HB.out.size; omega)))); clear hr hb hs)
        | (go_at_call 8; refine (HNP.out w0).mono ?_; rintro e w1 ⟨rfl, hr, hb, hs⟩; have H1 := Lib.hid (And.intro hr (And.intro hb hs)); clear hr hb hs)
        | (go_at_call 9; first | (refine (HF0.out _ H4.out.below).mono ?_; clear HF0; rintro e w' ⟨rfl, rfl⟩) | (refine (HF1.out _ H4.out.below).mono ?_; clear HF1; rintro e w' ⟨rfl, rfl⟩))
        | (go_at_call 10; refine (works_any _).mono ?_; rintro e w' ⟨rfl, bel⟩))
      go_ret
      exact ⟨rfl, H4.out.below.trans (bel.mono H4.out.below.size)⟩
    · go_enter Try.func4, Try.ntmps4
      go_wp2
      go_quiet (fail)
      clear p0 p1
      have HB := Lib.hid (below_drewN HBL.out nq)
      clear HBL
      generalize (w.alloc (.cells #[.int .u8 x0, .int .u8 x1] 47)).drewN nq = w0 at HB ⊢
      go_wp2_with (first
        | (go_at_call 11; refine (HDQ.out w3 H3.out.2.2.2).mono ?_; rintro e w4 ⟨rfl, hd, hb, hs⟩; have H4 := Lib.hid (Ta.start P Q HPP.out.2.1 HPP.out.2.2.2 HB.out H1.out.1 H1.out.2.1 H1.out.2.2 H2.out.1 H2.out.2.1 H2.out.2.2.1 H3.out.1 H3.out.2.1 H3.out.2.2.1 hd hb); clear hd hb hs)
        | (go_at_call 11; refine (HDP.out w2 H2.out.2.2.2).mono ?_; rintro e w3 ⟨rfl, hd, hb, hs⟩; have H3 := Lib.hid (And.intro hd (And.intro hb (And.intro hs (show w.heap.size ≤ w3.heap.size by have := H2.out.2.2.2; omega)))); clear hd hb hs)
        | (go_at_call 8; refine (HNQ.out w1).mono ?_; rintro e w2 ⟨rfl, hr, hb, hs⟩; have H2 := Lib.hid (And.intro hr (And.intro hb (And.intro hs (show w.heap.size ≤ w2.heap.size by have h1 := H1.out.2.2; have h0 := HB.out.size; omega)))); clear hr hb hs)
        | (go_at_call 8; refine (HNP.out w0).mono ?_; rintro e w1 ⟨rfl, hr, hb, hs⟩; have H1 := Lib.hid (And.intro hr (And.intro hb hs)); clear hr hb hs)
        | (go_at_call 9; first | (refine (HF0.out _ H4.out.below).mono ?_; clear HF0; rintro e w' ⟨rfl, rfl⟩) | (refine (HF1.out _ H4.out.below).mono ?_; clear HF1; rintro e w' ⟨rfl, rfl⟩)))
      obtain ⟨h60a, hza⟩ := few_true HL0.out HB0.out
      obtain ⟨h60b, hzb⟩ := few_true HL1.out HB1.out
      have HZ0 := Lib.hid hza
      have HZ1 := Lib.hid hzb
      have hS := H4.out
      clear hza hzb H4
      generalize w0.heap.size + 1 = B1 at hS ⊢
      generalize w2.heap.size = C1 at hS ⊢
      generalize w1.heap.size + 1 = B2 at hS ⊢
      generalize w3.heap.size = C2 at hS ⊢
      generalize P * 4096 = N1 at hS
      generalize Q * 4096 = N2 at hS
      go_loopw [13] (fun i wr => ∃ k : Nat, k ≤ len0 ∧ i = .int .i64 k ∧ Ta w wr B1 C1 N1 B2 C2 N2) (fun i _ => len0 - (intOf i).toNat)
      case atStart => exact ⟨0, Nat.zero_le _, rfl, hS⟩
      case round =>
        obtain ⟨k, hk, rfl, hst⟩ := hrel
        clear hS
        have k1 : (0 : Int) ≤ (k : Int) := Int.natCast_nonneg _
        by_cases hlt : k < len0
        · obtain ⟨e, hk2⟩ : ∃ e, l0[k]? = some e := ⟨_, List.getElem?_eq_getElem (by rw [HL0.out]; exact hlt)⟩
          have k2 : (k : Int) < (len0 : Int) := by omega
          obtain ⟨⟨hq, ha, hx⟩, b, off, rfl, hcells⟩ := deed_at D0.out hk2
          obtain ⟨d0, d1, d2, d3, d4⟩ := hcells wr hst.below
          have hs := HZ0.out k e hk2
          have HK := Lib.hid (hst.one e.k e.a e.v e.wd e.s hq ha hx hs)
          clear hst hcells hk2 hq ha hx hs
          as_aux_lemma =>
            go_wp2_with (go_at_call 16; refine HK.out.mono ?_; rintro e w5 ⟨rfl, hz⟩; have HS5 := Lib.hid hz; clear hz)
            go_roundw
            case rel => exact ⟨k + 1, by omega, by go_num, HS5.out⟩
            case measure => simp [intOf]; omega
        · have hT := hst.next
          clear hst
          go_wp2
          go_loopw [14] (fun i wx => ∃ j : Nat, j ≤ len1 ∧ i = .int .i64 j ∧ Tb w wx wr.heap.size B1 C1 N1 B2 C2 N2) (fun i _ => len1 - (intOf i).toNat)
          case atStart => exact ⟨0, Nat.zero_le _, rfl, hT⟩
          case round =>
            obtain ⟨j, hj, rfl, hst⟩ := hrel
            clear hT
            rename World => wx
            have j1 : (0 : Int) ≤ (j : Int) := Int.natCast_nonneg _
            by_cases hjl : j < len1
            · obtain ⟨e, hk2⟩ : ∃ e, l1[j]? = some e := ⟨_, List.getElem?_eq_getElem (by rw [HL1.out]; exact hjl)⟩
              have j2 : (j : Int) < (len1 : Int) := by omega
              obtain ⟨⟨hq, ha, hx⟩, b, off, rfl, hcells⟩ := deed_at D1.out hk2
              obtain ⟨d0, d1, d2, d3, d4⟩ := hcells wx hst.below
              have hs := HZ1.out j e hk2
              have HK := Lib.hid (hst.one e.k e.a e.v e.wd e.s hq ha hx hs)
              clear hst hcells hk2 hq ha hx hs
              as_aux_lemma =>
                go_wp2_with (go_at_call 16; refine HK.out.mono ?_; rintro e w5 ⟨rfl, hz⟩; have HS5 := Lib.hid hz; clear hz)
                go_roundw
                case rel => exact ⟨j + 1, by omega, by go_num, HS5.out⟩
                case measure => simp [intOf]; omega
            · obtain ⟨bb, hfin⟩ := hst.final
              have HK := Lib.hid hfin
              clear hst hfin
              cases bb
              all_goals
                go_wp2_with (first
                  | (go_at_call 20; refine F5.out.mono ?_; rintro e w16 ⟨rfl, hb6⟩; have H6 := Lib.hid hb6; clear hb6)
                  | (go_at_call 20; refine F4.out.mono ?_; rintro e w15 ⟨rfl, F5⟩)
                  | (go_at_call 20; refine F3.out.mono ?_; rintro e w14 ⟨rfl, F4⟩)
                  | (go_at_call 13; refine F2.out.mono ?_; rintro e w13 ⟨B3, rfl, F3⟩)
                  | (go_at_call 21; refine F1.out.mono ?_; rintro e w12 ⟨rfl, F2⟩)
                  | (go_at_call 20; refine HK.out.mono ?_; rintro e w11 ⟨rfl, F1⟩)
                  | (go_at_call 10; refine (works_any _).mono ?_; rintro e w17 ⟨rfl, bel⟩))
                go_ret
                exact ⟨rfl, H6.out.trans (bel.mono H6.out.size)⟩
end Go.Proofs.Ytjdedgfbonlmkaa
