/- RamPlays' body. -/
import Derived.Test.YtjdedgfbonlmkaaDl
set_option linter.unusedVariables false
set_option linter.unusedSimpArgs false
namespace Go.Proofs.Ytjdedgfbonlmkaa
open Go.RowKit
section
variable {w wr w' w1 w2 : World} {B g C N W A D base : Nat} {l : List UInt8}
theorem Rs.start (p : Nat) (h1 : 1 ≤ p) (h2 : p ≤ 16) (hr : Rm w1 (w.heap.size + 1) w.heap.size (p * 4096) 0 0 (List.replicate (p * 4096) 0)) (hb : Below w.heap.size w w1) (hs : w1.heap.size = w.heap.size + 2) (hd : Dm w2 w1.heap.size (p * 4096) 0 0 (List.replicate (p * 4096) 0) w.heap.size [] (.slice none 0 0)) (hb2 : Below w1.heap.size w1 w2) : Rs w w2 (w.heap.size + 1) w1.heap.size (p * 4096) :=
  ⟨w.heap.size, 0, 0, 0, _, ⟨hr.over hb2, ⟨_, _, hd⟩, fun h => absurd h (by decide), fun _ => rfl, by omega, by omega⟩, hb.trans (hb2.mono (by omega)), by omega, Nat.le_refl _, by omega⟩
theorem Rs.size (h : Rs w wr B C N) : (∀ n, Calls Try.prog 12 #[.pointer (some ⟨B, 0, none⟩)] (wr.drewN n) fun e w' => e = .returned (.int .u64 N) ∧ w' = wr.drewN n) ∧ wr.cell? ⟨C, 0, none⟩ = some (.int .u64 N) := by
  obtain ⟨g, W, A, D, l, hp, hb, h1, h2, h3⟩ := h
  refine ⟨fun n => (size_any (hp.rm.drawn n)).mono (fun e w' h => ⟨h.1, h.2.symm⟩), ?_⟩
  obtain ⟨L, v, hd⟩ := hp.dm
  exact hd.box.read 0
theorem Rs.holds (h : Rs w wr B C N) (a : Nat) : ∃ hd : Int → Bool, (∀ z n, Calls Try.prog 17 #[.pointer (some ⟨B, 0, none⟩), .int .u64 a, .int .i64 z] (wr.drewN n) fun e w' => e = .returned (.bool (hd z)) ∧ w' = wr.drewN n) ∧ (∀ z n, Calls Try.prog 18 #[.pointer (some ⟨C, 0, none⟩), .int .u64 a, .int .i64 z] (wr.drewN n) fun e w' => e = .returned (.bool (hd z)) ∧ w' = wr.drewN n) := by
  obtain ⟨g, W, A, D, l, hp, hb, h1, h2, h3⟩ := h
  exact ⟨fun z => hdB W A a z, fun z n => pm_held (hp.over (below_drewN (Below.refl _ _) n)) a z, fun z n => pm_dheld (hp.over (below_drewN (Below.refl _ _) n)) a z⟩
end
theorem conv_byte (c : UInt8) (W : World) : (convert 45 9 (.slice (some ⟨W.heap.size, 0, none⟩) 1 1)).run Try.prog (W.alloc (.cells #[.int .u8 c.toNat] 5)) = .ok (.string ⟨#[c]⟩) (W.alloc (.cells #[.int .u8 c.toNat] 5)) := by
  have h := run_convert_bytes_arg (P := Try.prog) (W.alloc (.cells #[.int .u8 c.toNat] 5)) 45 5 Try.underlying45 Try.underlying5 W.heap.size 0 1 1 [(c.toNat : Int)] rfl (fun i hi => by
    obtain rfl : i = 0 := by omega
    simp) 9 Try.underlying9
  rw [h]
  simp [strOfNums]
theorem bytes_one {wr : World} {B g N A W : Nat} {l : List UInt8} (h : Rm wr B g N A W l) {L : List Ent} (hm : Md L l) {e : Ent} (he : e ∈ L) : Calls Try.prog 19 #[.pointer (some ⟨B, 0, none⟩), .int .u64 e.1, .int .u64 1] wr fun e' w' => e' = .returned (.tuple #[.string ⟨#[e.2]⟩, .int .i64 0]) ∧ wr = w' := by
  have hl := hm.inn e he
  have hg := hm.get he
  have hb := bytes_good h e.1 1 (by have := h.len; omega)
  have e1 : (l.drop e.1).take 1 = [e.2] := by
    have h2 : (l.drop e.1)[0]? = some e.2 := by rw [List.getElem?_drop, Nat.add_zero]; exact hg
    cases hd : l.drop e.1 with
    | nil => rw [hd] at h2; cases h2
    | cons x r =>
      rw [hd] at h2
      simp at h2
      rw [h2]
      rfl
  rw [e1] at hb
  exact hb
set_option maxHeartbeats 1000000 in
set_option maxRecDepth 200000 in
theorem plays_bad (p : Nat) (hp : p < 256) (a : Option Addr) (len cap : Nat) (h : ¬ (1 ≤ p ∧ p ≤ 16)) (w : World) : Calls Try.prog 3 #[.int .u8 p, .slice a len cap] w (Yes w) := by
  have HN := Lib.hid (new_none p (by omega) w)
  have hpw : IntKind.i64.wrap (p : Int) = (p : Int) := IntWalk.i64_in _ (by omega)
  by_cases h1 : p < 1
  · have q1 : (p : Int) < 1 := by omega
    clear h h1
    go_enter Try.func3, Try.ntmps3
    go_wp2_with (first
      | (go_at_call 8; refine HN.out.mono ?_; rintro e w' ⟨rfl, rfl⟩)
      | (go_at_call 10; refine (works_any _).mono ?_; rintro e w' ⟨rfl, bel⟩))
    go_ret
    exact ⟨rfl, bel⟩
  · have q1 : ¬ ((p : Int) < 1) := by omega
    have q2 : 16 < (p : Int) := by omega
    have q3 : decide ((p : Int) < 1) = false := decide_eq_false q1
    clear h h1
    go_enter Try.func3, Try.ntmps3
    go_wp2_with (first
      | (go_at_call 8; refine HN.out.mono ?_; rintro e w' ⟨rfl, rfl⟩)
      | (go_at_call 10; refine (works_any _).mono ?_; rintro e w' ⟨rfl, bel⟩))
    go_ret
    exact ⟨rfl, bel⟩
set_option maxHeartbeats 4000000 in
set_option maxRecDepth 200000 in
theorem plays_ok (p : Nat) (a : Option Addr) (len cap : Nat) (l : List Deed) (g1 : 1 ≤ p) (g2 : p ≤ 16) (w : World) (hf : IsDeeds w a len l) : Calls Try.prog 3 #[.int .u8 p, .slice a len cap] w (Yes w) := by
  have LA := Lib.hid (fun wx (h : Below w.heap.size w wx) => hf.later h)
  have hlen := hf.1
  clear hf
  have hF := fun wx bel => few_any a len cap l wx (LA.out wx bel)
  generalize hB : fewB len l = bb at hF
  have HF := Lib.hid hF
  have HB := Lib.hid hB
  have HN := Lib.hid (new_any p g1 g2 w)
  have HD := Lib.hid (fun wx hx => dnew_any p g1 g2 w.heap.size wx hx)
  clear hF hB
  have q1 : ¬ ((p : Int) < 1) := by omega
  have q2 : ¬ (16 < (p : Int)) := by omega
  have q3 : decide ((p : Int) < 1) = false := decide_eq_false q1
  have q4 : decide (16 < (p : Int)) = false := decide_eq_false q2
  cases bb
  · go_enter Try.func3, Try.ntmps3
    go_wp2_with (first
      | (go_at_call 8; refine HN.out.mono ?_; rintro e w1 ⟨rfl, hr, hb, hs⟩; have H1 := Lib.hid (And.intro hr (And.intro hb hs)); clear hr hb hs)
      | (go_at_call 9; refine (HF.out _ H1.out.2.1).mono ?_; rintro e w' ⟨rfl, rfl⟩)
      | (go_at_call 10; refine (works_any _).mono ?_; rintro e w' ⟨rfl, bel⟩))
    go_ret
    exact ⟨rfl, H1.out.2.1.trans (bel.mono H1.out.2.1.size)⟩
  · go_enter Try.func3, Try.ntmps3
    go_wp2_with (first
      | (go_at_call 8; refine HN.out.mono ?_; rintro e w1 ⟨rfl, hr, hb, hs⟩; have H1 := Lib.hid (And.intro hr (And.intro hb hs)); clear hr hb hs)
      | (go_at_call 9; refine (HF.out _ H1.out.2.1).mono ?_; rintro e w' ⟨rfl, rfl⟩)
      | (go_at_call 11; refine (HD.out w1 H1.out.2.1.size).mono ?_; rintro e w2 ⟨rfl, hd, hb2, hs2⟩; have HS := Lib.hid (Rs.start p g1 g2 H1.out.1 H1.out.2.1 H1.out.2.2 hd hb2); clear hd hb2 hs2))
    obtain ⟨h60, hsz60⟩ := few_true hlen HB.out
    have HZ := Lib.hid hsz60
    have HL := Lib.hid hlen
    have HQ := Lib.hid HS.out.size.1
    have c0 := HS.out.size.2
    clear hsz60 hlen
    go_quiet ((go_at_call 12; exact Calls.quiet_of_same (HQ.out _)))
    have hS := HS.out.drawn nq
    generalize hB0 : w.heap.size + 1 = B0 at hS ⊢
    generalize hC0 : w1.heap.size = C0 at hS ⊢
    generalize hN0 : p * 4096 = N at hS
    have HB0 := Lib.hid (And.intro hB0 (And.intro hC0 hN0))
    clear HS H1 HN HD HQ c0 hB0 hC0 hN0 q1 q2 q3 q4 g1 g2
    go_wp2
    go_loopw [5, 6, 7] (fun m r i wr => ∃ (k B C : Nat), k ≤ len ∧ m = .pointer (some ⟨B, 0, none⟩) ∧ r = .pointer (some ⟨C, 0, none⟩) ∧ i = .int .i64 k ∧ Rs w wr B C N) (fun _ _ i _ => len - (intOf i).toNat)
    case atStart => exact ⟨0, B0, C0, Nat.zero_le _, rfl, rfl, rfl, hS⟩
    case round =>
      obtain ⟨k, B, C, hk, rfl, rfl, rfl, hst⟩ := hrel
      clear hS
      have k1 : (0 : Int) ≤ (k : Int) := Int.natCast_nonneg _
      by_cases hlt : k < len
      · obtain ⟨e, hk2⟩ : ∃ e, l[k]? = some e := ⟨_, List.getElem?_eq_getElem (by rw [HL.out]; exact hlt)⟩
        have k2 : (k : Int) < (len : Int) := by omega
        obtain ⟨b, off, rfl, hcells⟩ : ∃ b off, a = some ⟨b, off, none⟩ ∧ ∀ wx, Below w.heap.size w wx → (wx.cell? ⟨b, off + k * 5, none⟩ = some (.int .u8 e.k) ∧ wx.cell? ⟨b, off + k * 5 + 1, none⟩ = some (.int .u64 e.a) ∧ wx.cell? ⟨b, off + k * 5 + 2, none⟩ = some (.int .u64 e.v) ∧ wx.cell? ⟨b, off + k * 5 + 3, none⟩ = some (.int .i64 e.wd) ∧ wx.cell? ⟨b, off + k * 5 + 4, none⟩ = some (.string e.s)) := by
          obtain ⟨b, off, rfl, _⟩ := (LA.out w (Below.refl _ _)).2 k e hk2
          refine ⟨b, off, rfl, fun wx hbx => ?_⟩
          obtain ⟨b', off', e', _, c0, c1, c2, c3, c4, _⟩ := (LA.out wx hbx).2 k e hk2
          cases e'
          rw [Nat.mul_comm k 5]
          exact ⟨c0, c1, c2, c3, c4⟩
        have hbd : e.k < 256 ∧ e.a < 18446744073709551616 ∧ e.v < 18446744073709551616 ∧ -9223372036854775808 ≤ e.wd ∧ e.wd ≤ 9223372036854775807 := by
          obtain ⟨_, _, _, _, _, _, _, _, _, h⟩ := (LA.out w (Below.refl _ _)).2 k e hk2
          exact h
        obtain ⟨hq, ha, hx, hz1, hz2⟩ := hbd
        have hs := HZ.out k e hk2
        obtain ⟨d0, d1, d2, d3, d4⟩ := hcells wr hst.below
        obtain ⟨q, ea, ev, z, s⟩ := e
        simp only at d0 d1 d2 d3 d4 hcells hq ha hx hz1 hz2 hs
        have HC := Lib.hid hcells
        have HS := Lib.hid hst
        clear hst hcells hk2
        by_cases h9 : q % 10 = 9
        · have hc : ((q : Int) % 10) = 9 := by omega
          clear h9
          as_aux_lemma =>
            have HK := Lib.hid HS.out.copy
            go_wp2_with (first
              | (go_at_call 13; refine HK.out.mono ?_; rintro e w3 ⟨B2, rfl, hb3, h4⟩; have HB3 := Lib.hid hb3; clear hb3)
              | (go_at_call 14; refine h4.out.mono ?_; rintro e w4 ⟨C2, rfl, hb4, h5⟩; have HB4 := Lib.hid hb4; clear hb4)
              | (go_at_call 15; refine h5.out.mono ?_; rintro e w5 ⟨rfl, hz⟩; have HS5 := Lib.hid hz; clear hz; obtain ⟨x0, x1, x2, x3, x4⟩ := HC.out w5 HS5.out.below; clear x0 x2 x3 x4))
            obtain ⟨hd, hh1, hh2⟩ := HS5.out.holds ea
            have HH := Lib.hid (And.intro hh1 hh2)
            clear hh1 hh2
            go_quiet (first
              | (go_at_call 17; exact Calls.quiet_of_same (HH.out.1 _ _))
              | (go_at_call 18; exact Calls.quiet_of_same (HH.out.2 _ _)))
            go_wp2
            go_roundw
            case rel => exact ⟨k + 1, B2, C2, by omega, rfl, rfl, by go_num, HS5.out.drawn _⟩
            case measure => simp [intOf]; omega
        · have hc : (((q : Int) % 10) == 9) = false := beq_eq_false_iff_ne.2 (by omega)
          have hc2 : ¬ (((q : Int) % 10) = 9) := by omega
          clear h9
          as_aux_lemma =>
            have HK := Lib.hid (HS.out.one q ea ev z s hq ha hx hs)
            go_wp2_with (go_at_call 16; refine HK.out.mono ?_; rintro e w5 ⟨rfl, hz⟩; have HS5 := Lib.hid hz; clear hz; obtain ⟨x0, x1, x2, x3, x4⟩ := HC.out w5 HS5.out.below; clear x0 x2 x3 x4)
            obtain ⟨hd, hh1, hh2⟩ := HS5.out.holds ea
            have HH := Lib.hid (And.intro hh1 hh2)
            clear hh1 hh2
            go_quiet (first
              | (go_at_call 17; exact Calls.quiet_of_same (HH.out.1 _ _))
              | (go_at_call 18; exact Calls.quiet_of_same (HH.out.2 _ _)))
            go_wp2
            go_roundw
            case rel => exact ⟨k + 1, B, C, by omega, rfl, rfl, by go_num, HS5.out.drawn _⟩
            case measure => simp [intOf]; omega
      · obtain ⟨g, W, A, D, lm, hp, hbl, hB1, hg1, hC1⟩ := hst
        obtain ⟨L, v, hdm⟩ := hp.dm
        obtain ⟨av, cap2, rfl, hav⟩ := own_row hdm.own
        have HP := Lib.hid (And.intro hp (And.intro hbl hdm))
        have HAV := Lib.hid hav
        have hLn := hdm.lN
        clear hp hbl hdm hav
        go_wp2
        go_loopw [9] (fun i wx => ∃ k : Nat, k ≤ L.length ∧ i = .int .i64 k ∧ Below wr.heap.size wr wx) (fun i _ => L.length - (intOf i).toNat)
        case atStart => exact ⟨0, Nat.zero_le _, rfl, Below.refl _ _⟩
        case round =>
          obtain ⟨j, hj, rfl, hbx⟩ := hrel
          have j1 : (0 : Int) ≤ (j : Int) := Int.natCast_nonneg _
          rename World => wx
          have HBX := Lib.hid hbx
          have HDX := Lib.hid (HP.out.2.2.over hbx)
          have c1 := HDX.out.box.read 1
          clear hbx
          by_cases hjl : j < L.length
          · have j2 : (j : Int) < (L.length : Int) := by omega
            obtain ⟨gr, rfl⟩ : ∃ gr, av = some ⟨gr, 0, none⟩ := by
              rcases HAV.out with ⟨h0, _⟩ | ⟨gr, cur, e, _⟩
              · omega
              · exact ⟨gr, e⟩
            have he : L[j]? = some L[j] := List.getElem?_eq_getElem hjl
            generalize L[j] = e at he
            obtain ⟨x1, x2⟩ := ents_get he
            have d0 := (World.ownsRow.cellAt HDX.out.own (j * 2) (by omega)).trans x1
            have d1 := (World.ownsRow.cellAt HDX.out.own (j * 2 + 1) (by omega)).trans x2
            have HY := Lib.hid (bytes_one (HP.out.1.rm.over HBX.out) HDX.out.md (List.mem_of_getElem? he))
            obtain ⟨e1, e2⟩ := e
            simp only at d0 d1 HY
            have hcv := conv_byte e2
            have hss := str_self ⟨#[e2]⟩
            clear x1 x2 he
            go_wp2_with (go_at_call 19; refine HY.out.mono ?_; rintro e w7 ⟨rfl, rfl⟩)
            go_roundw
            case rel => exact ⟨j + 1, by omega, by go_num, HBX.out.alloc HBX.out.size _⟩
            case measure => simp [intOf]; omega
          · go_wp2_with (go_at_call 10; refine (works_any _).mono ?_; rintro e w9 ⟨rfl, bel9⟩)
            go_ret
            have hw := HP.out.2.1.trans (HBX.out.mono HP.out.2.1.size)
            exact ⟨rfl, hw.trans (bel9.mono hw.size)⟩
end Go.Proofs.Ytjdedgfbonlmkaa
