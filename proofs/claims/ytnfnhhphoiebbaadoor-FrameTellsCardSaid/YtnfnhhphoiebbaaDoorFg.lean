/- New of the program: a table of windows. -/
import Derived.Test.YtnfnhhphoiebbaaDoorFf
set_option linter.unusedVariables false
set_option linter.unusedSimpArgs false
namespace Go.Proofs.YtnfnhhphoiebbaaDoor
open Go.RowKit
theorem new_bad (G : Int) (a : Option Addr) (n cap : Nat) (l : List Win) (w : World) (hG1 : -9223372036854775808 ≤ G) (hG2 : G ≤ 9223372036854775807) (hn : n ≤ 9223372036854775807) (hf : IsWins w a n l) (hc : chk G l ≠ 0) : Calls Tryd.prog 7 #[.slice a n cap, .int .i64 G] w fun e w' => e = .returned (.tuple #[.pointer none, .int .i64 (chk G l : Nat)]) ∧ Below w.heap.size w w' := by
  have HC := Lib.hid (check_any G a n cap l w hG1 hG2 hn hf)
  have hc2 : ((chk G l : Int) != 0) = true := bne_iff_ne.2 (by omega)
  clear hf hc
  go_enter Tryd.func7, Tryd.ntmps7
  go_wp2_with (go_at_call 22; refine HC.out.mono ?_; rintro e w' ⟨rfl, hb⟩)
  go_ret2
  exact ⟨rfl, hb⟩
theorem own_base {w : World} {base base' n size : Nat} {e : TypeId} {v : Value} {xs : List Value} (h : w.ownsRow base e size v n xs) (hb : base' ≤ base) : w.ownsRow base' e size v n xs := by
  obtain ⟨h1, h2⟩ := h
  refine ⟨h1, ?_⟩
  rcases h2 with h2 | ⟨g, cap, cur, rfl, hg, r⟩
  · exact .inl h2
  · exact .inr ⟨g, cap, cur, rfl, by omega, r⟩
theorem new_ok (G : Int) (b off n cap : Nat) (l : List Win) (w : World) (hG1 : -9223372036854775808 ≤ G) (hG2 : G ≤ 9223372036854775807) (hf : IsWins w (some ⟨b, off, none⟩) n l) (hc : chk G l = 0) : Calls Tryd.prog 7 #[.slice (some ⟨b, off, none⟩) n cap, .int .i64 G] w fun e w' => ∃ p wv bv, e = .returned (.tuple #[.pointer (some ⟨p, 0, none⟩), .int .i64 0]) ∧ Nw w w' p l (bvals l) (tot l) wv bv := by
  have hgood := chk_good hc
  have hn : n ≤ 32 := by have := hgood.n2; have := hf.1; omega
  have HL := Lib.hid hf.1
  have HTop := Lib.hid hgood.top
  have h8 := check_any G (some ⟨b, off, none⟩) n cap l w hG1 hG2 (by omega) hf
  rw [hc] at h8
  have HC := Lib.hid h8
  have HF := Lib.hid hf
  obtain ⟨i0, hi, iz0, iz1, iz2⟩ := info_parts info32
  clear hgood h8 hc hf
  go_enter Tryd.func7, Tryd.ntmps7
  go_wp2_with (first
    | (go_at_call 23; have Hx := H8; refine (clone_any b off n cap l _ hn (HF.out.later Hx.out)).mono ?_; rintro e w2 ⟨wv, rfl, hown, hb2⟩; obtain ⟨wa, wc, rfl, hwa⟩ := own_sl hown)
    | (go_at_call 22; refine HC.out.mono ?_; rintro e w1 ⟨rfl, hb1⟩; have H8 := Lib.hid hb1; clear hb1))
  clear Hx
  have HNw : Hid (Nw w (w2.alloc (.cells #[.slice wa l.length wc, .slice none 0 0, .int .u64 0] 57)) w2.heap.size l [] 0 (.slice wa l.length wc) (.slice none 0 0)) := Lib.hid ⟨Box.made w2 57 _, own_base (hown.alloc _) H8.out.size, .inl ⟨rfl, rfl⟩, (fun b h => by cases h), (H8.out.trans (hb2.mono H8.out.size)).alloc (Nat.le_trans H8.out.size hb2.size) _, Nat.le_trans H8.out.size hb2.size⟩
  generalize hp : w2.heap.size = p at HNw ⊢
  clear hown hwa hb2 hp H8
  go_loopw [22] (fun i wr => ∃ (k : Nat) (bv : Value), k ≤ n ∧ i = .int .i64 k ∧ Nw w wr p l (bvals (l.take k)) (tot (l.take k)) (.slice wa l.length wc) bv) (fun i _ => n - (intOf i).toNat)
  case atStart => exact ⟨0, _, Nat.zero_le _, rfl, HNw.out⟩
  case round =>
    obtain ⟨k, bv, hk, rfl, hst⟩ := hrel
    have k1 : (0 : Int) ≤ (k : Int) := Int.natCast_nonneg _
    by_cases hlt : k < n
    · have k2 : (k : Int) < (n : Int) := by omega
      obtain ⟨⟨f1, f2⟩, hkf⟩ : ∃ f, l[k]? = some f := ⟨_, List.getElem?_eq_getElem (by rw [HL.out]; exact hlt)⟩
      obtain ⟨⟨b1, b2⟩, bk, of', eb, hc⟩ := win_at HF.out hkf
      cases eb
      obtain ⟨c0, c1⟩ := hc wr hst.bel
      dsimp only at b1 b2 c0 c1
      have q1 : (0 : Int) ≤ (f2 : Int) := Int.natCast_nonneg _
      have q2 : (f2 : Int) < 65536 := by omega
      have hlen : (bvals (l.take k)).length = k := by rw [bvals_len, List.length_take, HL.out]; omega
      have htk := tot_take hkf
      have hbs := congrArg bvals (take_snoc hkf)
      rw [bvals_snoc] at hbs
      have htl : tot (l.take k) ≤ 1024 := Nat.le_trans (tot_take_le l k) HTop.out
      have hl2 : l.length = n := HL.out
      have HE := Lib.hid (And.intro htk hbs)
      generalize tot (l.take k) = tl at hst htl HE
      generalize bvals (l.take k) = T at hst hlen HE
      have HT := Lib.hid hst
      obtain ⟨ba, bc, rfl, _⟩ := hst.lane.shape
      obtain ⟨v2, hcut, hlane2, hob⟩ := lane_cut hst.lane
      rw [hlen] at hcut
      have HK := Lib.hid (And.intro hlane2 hob)
      have HM := Lib.hid hlen
      clear hst hc hkf htk hbs hlane2 hob hl2
      rw [hlen] at HT HK
      go_wp2
      have HN : Hid (Nw w (wr.alloc (.cells #[.int .u8 f1, .int .u16 f2] 51)) p l T tl (.slice wa l.length wc) (.slice ba k bc) ∧ Box (wr.alloc (.cells #[.int .u8 f1, .int .u16 f2] 51)) wr.heap.size 51 #[.int .u8 f1, .int .u16 f2] ∧ Lane (wr.alloc (.cells #[.int .u8 f1, .int .u16 f2] 51)) 32 v2 T) := Lib.hid ⟨HT.out.more _, Box.made wr 51 _, HK.out.1.more _⟩
      generalize hq : wr.heap.size = q at HN ⊢
      have HQ : Hid (p < q) := Lib.hid (by have := HT.out.box.inHeap; omega)
      clear hq c0 c1
      generalize wr.alloc (.cells #[.int .u8 f1, .int .u16 f2] 51) = wq at HN ⊢
      clear HT
      refine wp_region_moves_then 24 (fun w' => w'.cell? ⟨p, 1, none⟩ = some (.slice ba k bc) ∧ w'.cell? ⟨p, 2, none⟩ = some (.int .u64 tl))
        (.e 0 :: .e 0 :: .e 0 :: .e 0 :: .e 0 :: .e 0 :: .e 0 :: .e 0 :: .e 0 :: .e 0 :: .e 0 :: .e 0 :: .e 0 :: .e 0 :: .e 0 :: .e 0 :: .e 0 :: .e 0 :: .e 0 :: .e 0 :: .l 0 :: .l 0 :: .e 0 :: .e 0 :: []) (by kernel_rfl) (by kernel_rfl) (by kernel_rfl) (by kernel_rfl) (by kernel_rfl) (by kernel_rfl) ?_
      simp only [List.take_succ_cons, List.take_zero, List.drop_succ_cons, List.drop_zero]
      have hHeld : (wq.drew.cell? ⟨p, 1, none⟩ = some (.slice ba k bc) ∧ wq.drew.cell? ⟨p, 2, none⟩ = some (.int .u64 tl)) := ⟨HN.out.1.box.drawn1.read 1, HN.out.1.box.drawn1.read 2⟩
      repeat (refine mv_take0 (v := ?_) (by rfl) hHeld ?_ ?_; rotate_left 1; (focus (intro w hSw; (try dsimp only at hSw); obtain ⟨hs0, hs1⟩ := hSw; go_simp; (try with_reducible rfl); done)); (try simp only [Act.put, List.setIfInBounds_toArray, List.set_cons_zero, List.set_cons_succ]))
      refine mv_loud0 (by rfl) (fun K2 hK => ?_)
      go_simp
      refine hK.out _ _ ⟨(HN.out.1.box.drawn1.more _).read 1, (HN.out.1.box.drawn1.more _).read 2⟩ ?_
      clear hK K2
      (try simp only [Act.put, List.setIfInBounds_toArray, List.set_cons_zero, List.set_cons_succ])
      refine mv_loud0 (by rfl) (fun K2 hK => ?_)
      have hm := hK
      have hnb := HN.out.1.drawn1.more (.cells #[.int .u64 tl] 32)
      have hla := HN.out.2.2.drawn1.more (.cells #[.int .u64 tl] 32)
      have hli := Lane.lit wq.drew 32 #[.int .u64 tl] (by simp [maxLen])
      refine wp_append_lane _ _ 55 rfl 32 i0 (.int .u64 0) 8 Tryd.underlying55 hi iz0 iz1 iz2 (by decide) v2 (.slice (some ⟨wq.heap.size, 0, none⟩) 1 1) T [.int .u64 tl] rfl rfl hla hli ?e1 ?e2 ?e3 ?_
      case e1 => intro u hu; simp at hu; subst hu; rfl
      case e2 => rw [HM.out]; simp only [List.length_singleton, maxLen]; omega
      case e3 => rw [HM.out]; simp only [List.length_singleton]; omega
      intro v3 w3 hl3 hg3 hb3
      have hbx := hnb.boxB hg3 HK.out.2
      have hHeld := And.intro (hbx.read 1) (hbx.read 2)
      refine hK.out _ _ hHeld ?_
      clear hm hK K2
      (try simp only [Act.put, List.setIfInBounds_toArray, List.set_cons_zero, List.set_cons_succ])
      repeat (refine mv_take0 (v := ?_) (by rfl) hHeld ?_ ?_; rotate_left 1; (focus (intro w hSw; (try dsimp only at hSw); obtain ⟨hs0, hs1⟩ := hSw; go_simp; (try with_reducible rfl); done)); (try simp only [Act.put, List.setIfInBounds_toArray, List.set_cons_zero, List.set_cons_succ]))
      refine mv_then ?_
      have hbq : Box w3 q 51 #[.int .u8 f1, .int .u16 f2] := (hg3.block q (HN.out.2.1.drawn1.more _).inHeap (fun e => by rw [HK.out.2] at e; exact hnb.lane.far (HN.out.2.1.drawn1.more _) (by decide) e.symm)).trans (HN.out.2.1.drawn1.more _)
      have hpq : q ≠ p := by have := HQ.out; omega
      have hnw := hnb.setB hg3 HK.out.2 hl3 hb3
      obtain ⟨a3, cc3, e3, _⟩ := hl3.shape
      rw [List.length_append, HM.out, List.length_singleton] at e3
      subst e3
      have H4 := Lib.hid (And.intro hnw (Box.putFar (p := ⟨p, 1, none⟩) hbq hpq (.slice a3 (k + 1) cc3)))
      have d0 := hbx.read 1
      have g0 := hbx.warm 1
      clear hHeld hnw hbq hpq hl3 hg3 hb3 hnb hla hli hbx hcut hlen
      go_wp2_with fail
      refine NoPanic.normal ?_
      clear d0 g0
      generalize w3.setCell ⟨p, 1, none⟩ (.slice a3 (k + 1) cc3) = w4 at H4 ⊢
      clear HN HK
      go_wp2_with fail
      refine wp_region_moves_then 10 (fun w' => w'.cell? ⟨p, 2, none⟩ = some (.int .u64 tl) ∧ w'.cell? ⟨q, 1, none⟩ = some (.int .u16 f2))
        (.e 0 :: .e 0 :: .e 0 :: .e 0 :: .e 0 :: .e 0 :: .e 0 :: .e 0 :: .e 0 :: .e 0 :: []) (by kernel_rfl) (by kernel_rfl) (by kernel_rfl) (by kernel_rfl) (by kernel_rfl) (by kernel_rfl) ?_
      simp only [List.take_succ_cons, List.take_zero, List.drop_succ_cons, List.drop_zero]
      have hHeld : (w4.drew.cell? ⟨p, 2, none⟩ = some (.int .u64 tl) ∧ w4.drew.cell? ⟨q, 1, none⟩ = some (.int .u16 f2)) := ⟨H4.out.1.box.drawn1.read 2, H4.out.2.drawn1.read 1⟩
      repeat (refine mv_take0 (v := ?_) (by rfl) hHeld ?_ ?_; rotate_left 1; (focus (intro w hSw; (try dsimp only at hSw); obtain ⟨hs0, hs1⟩ := hSw; go_simp; (try with_reducible rfl); done)); (try simp only [Act.put, List.setIfInBounds_toArray, List.set_cons_zero, List.set_cons_succ]))
      refine mv_then ?_
      have d0 := H4.out.1.box.drawn1.read 2
      have g0 := H4.out.1.box.drawn1.warm 2
      have HD : Hid (Nw w (w4.setCell ⟨p, 2, none⟩ (.int .u64 (tl + f2 : Nat))).drew p l (bvals (l.take (k + 1))) (tot (l.take (k + 1))) (.slice wa l.length wc) (.slice a3 (k + 1) cc3)) := Lib.hid (by rw [HE.out.2, HE.out.1]; exact (H4.out.1.setL _).drawn1)
      have hsum : ((tl + f2 : Nat) : Int) = (tl : Int) + (f2 : Int) := by omega
      rw [hsum] at HD
      clear hsum hHeld
      go_wp2_with fail
      refine NoPanic.normal ?_
      clear d0 g0
      generalize (w4.setCell ⟨p, 2, none⟩ (.int .u64 ((tl : Int) + (f2 : Int)))).drew = w5 at HD ⊢
      clear H4
      go_wp2
      go_roundw
      case rel => exact ⟨k + 1, _, by omega, by go_num, HD.out⟩
      case measure => simp [intOf]; omega
    · have hkn : l.take k = l := List.take_of_length_le (by rw [HL.out]; omega)
      rw [hkn] at hst
      have HT := Lib.hid hst
      clear hst hkn
      go_wp2
      go_ret2
      exact ⟨p, _, _, rfl, HT.out⟩
end Go.Proofs.YtnfnhhphoiebbaaDoor
