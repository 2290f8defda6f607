/- Parse of the document. -/
import Derived.Test.YtilfhkagfjdfkaaEM
set_option linter.unusedVariables false
set_option linter.unusedSimpArgs false
namespace Go.Proofs.Ytilfhkagfjdfkaa
open Go.RowKit
attribute [local go_sem] Oper.semAt_some
theorem infoR : (Try.prog.info? 32).map (fun i => (i.zero, i.size, i.bytes)) = some (some (.agg #[.int .i64 0, .int .u8 0]), 2, 16) := by kernel_rfl
theorem fold_gr (gs : Int) : ∀ (es : List Ev) (s : PSt), (∀ g, s.F g = gr s.K g) → ∀ g, (es.foldl (pstep gs) s).F g = gr (es.foldl (pstep gs) s).K g
  | [], s, h => h
  | e :: l, s, h => by
    rw [List.foldl_cons]
    refine fold_gr gs l _ ?_
    intro g
    unfold pstep
    split
    · rename_i hz
      show upd s.F e.g e.t g = gr (s.K ++ [e]) g
      rw [gr_snoc, ← h g]
      by_cases hg : g = e.g
      · subst hg
        rw [upd_at]
        have hle : s.F e.g ≤ e.t := by
          unfold whyN at hz
          split at hz
          · cases hz
          split at hz
          · cases hz
          split at hz
          · cases hz
          · omega
        split
        · rfl
        · rename_i hq
          have : ¬ s.F e.g < e.t := fun q => hq ⟨rfl, q⟩
          omega
      · rw [upd_ne _ _ hg, if_neg (fun q => hg q.1.symm)]
    · exact h g
theorem why_le' (e : Ev) (gs : Int) (m : Nat) : whyN e gs m ≤ 3 := by unfold whyN; split <;> (try split) <;> (try split) <;> omega
theorem pst_gr (gs : Int) (es : List Ev) (g : Nat) : (pst gs es).F g = gr (pst gs es).K g := fold_gr gs es .zero (fun _ => rfl) g
theorem pst_wf (gs : Int) (es : List Ev) (h : ∀ e ∈ es, e.wf) : ∀ e ∈ (pst gs es).K, e.wf := foldl_wf gs _ _ h (fun e he => by cases he)
/-- How it stands in memory. -/
structure Qs (w0 w : World) (vk vd : Value) (t : PSt) : Prop where
  ke : w.ownsRow w0.heap.size 46 4 vk t.K.length (evs t.K)
  dr : w.ownsRow w0.heap.size 32 2 vd t.D.length (drs t.D)
  bel : Below w0.heap.size w0 w
section
variable {w0 w w2 : World} {vk vd v2 : Value} {t u : PSt}
theorem Qs.below (h : Qs w0 w vk vd t) (hb : Below w.heap.size w w2) : Qs w0 w2 vk vd t := ⟨own_below h.ke hb, own_below h.dr hb, h.bel.trans (hb.mono h.bel.size)⟩
theorem Qs.skipped (h : Qs w0 w vk vd t) (n y : Nat) (hg : w.grownBy w2 vd.ownBlock) (ho : w2.ownsRow w0.heap.size 32 2 v2 (t.D.length + 1) (drs t.D ++ [.int .i64 n, .int .u8 y])) : w2.ownsRow w0.heap.size 46 4 vk t.K.length (evs t.K) ∧ w2.ownsRow w0.heap.size 32 2 v2 (t.D ++ [(⟨n, y⟩ : Dr)]).length (drs (t.D ++ [(⟨n, y⟩ : Dr)])) ∧ Below w0.heap.size w0 w2 :=
  ⟨h.ke.kept hg (own_own h.ke h.dr (by decide)), by rw [drs_app, List.length_append]; exact ho, h.bel.grown hg h.bel.size (fun k hk => (h.dr.lt k hk).1)⟩
theorem Qs.skip (h : Qs w0 w vk vd t) (y : Nat) (hg : w.grownBy w2 vd.ownBlock) (ho : w2.ownsRow w0.heap.size 32 2 v2 (t.D.length + 1) (drs t.D ++ [.int .i64 t.n, .int .u8 y])) : Qs w0 w2 vk v2 (t.skip y) :=
  have h9 := h.skipped t.n y hg ho
  ⟨h9.1, h9.2.1, h9.2.2⟩
theorem Qs.keep (h : Qs w0 w vk vd t) (e : Ev) (hg : w.grownBy w2 vk.ownBlock) (ho : w2.ownsRow w0.heap.size 46 4 v2 (t.K.length + 1) (evs t.K ++ evL e)) : Qs w0 w2 v2 vd (t.keep e) :=
  ⟨by
     show w2.ownsRow w0.heap.size 46 4 v2 (t.K ++ [e]).length (evs (t.K ++ [e]))
     rw [evs_app, List.length_append]
     have e1 : evs [e] = evL e := by simp [evs]
     rw [e1]
     exact ho, h.dr.kept hg (own_own h.dr h.ke (by decide)), h.bel.grown hg h.bel.size (fun k hk => (h.ke.lt k hk).1)⟩
end
set_option maxHeartbeats 16000000 in
set_option maxRecDepth 100000 in
theorem docparse_any (s : ByteArray) (hs : s.size ≤ 100000) (gs : Int) (w : World) : Calls Try.prog 12 #[.string s, .int .i64 gs] w fun e w' => ∃ vk vd, e = .returned (.tuple #[vk, vd]) ∧ w'.ownsRow w.heap.size 46 4 vk (parK gs s.data.toList).length (evs (parK gs s.data.toList)) ∧ w'.ownsRow w.heap.size 32 2 vd (parD gs s.data.toList).length (drs (parD gs s.data.toList)) ∧ Below w.heap.size w w' := by
  obtain ⟨i0, hi, iz0, iz1, iz2⟩ := info_parts infoE
  obtain ⟨j0, hj, jz0, jz1, jz2⟩ := info_parts infoR
  have hsz : s.data.toList.length = s.size := Array.length_toList
  have HSZ := Lib.hid hsz
  clear hsz
  go_enter Try.func12, Try.ntmps12
  go_wp2
  go_loopw [6, 7, 8] (fun a b i wr => ∃ (vk vd : Value) (t : PSt), a = vk ∧ b = vd ∧ i = .int .i64 t.n ∧ t.n ≤ s.size / 10 ∧ t = pst gs ((recs s.data.toList).take t.n) ∧ Qs w wr vk vd t) (fun _ _ i _ => s.size / 10 - (intOf i).toNat)
  case atStart => exact ⟨_, _, .zero, rfl, rfl, rfl, Nat.zero_le _, rfl, World.ownsRow_nil _ _ _ _, World.ownsRow_nil _ _ _ _, Below.refl _ _⟩
  case round =>
    obtain ⟨vk, vd, t, rfl, rfl, rfl, hn, ht, hP⟩ := hrel
    have HT := Lib.hid ht
    have HP := Lib.hid hP
    have hKD : t.K.length + t.D.length = t.n := by
      have h := pst_len gs ((recs s.data.toList).take t.n) .zero
      have h2 : (PSt.zero.K.length + PSt.zero.D.length) = 0 := rfl
      have h3 : ((recs s.data.toList).take t.n).length = t.n := by rw [List.length_take, recs_len, HSZ.out]; omega
      have h4 := HT.out
      unfold pst at h4
      rw [← h4] at h
      omega
    have hF : Hid (∀ g, t.F g = gr t.K g) := Lib.hid fun g => by have h := pst_gr gs ((recs s.data.toList).take t.n) g; rw [← HT.out] at h; exact h
    have hWF : Hid (∀ e ∈ t.K, e.wf) := Lib.hid (by have h := pst_wf gs ((recs s.data.toList).take t.n) (fun e he => recs_wf _ e (List.mem_of_mem_take he)); rw [← HT.out] at h; exact h)
    clear hP ht
    have k1 : (0 : Int) ≤ (t.n : Int) := Int.natCast_nonneg _
    have q1 : IntKind.i64.wrap (10 * (t.n : Int)) = 10 * (t.n : Int) := by rw [IntKind.wrap_i64]; omega
    have q2 : IntKind.i64.wrap (10 * (t.n : Int) + 10) = 10 * (t.n : Int) + 10 := by rw [IntKind.wrap_i64]; omega
    by_cases hr : t.n < s.size / 10
    · obtain ⟨e, he⟩ : ∃ e, recEv (s.extract (10 * t.n) (10 * t.n + 10)).data.toList = e := ⟨_, rfl⟩
      have hex : (s.extract (10 * t.n) (10 * t.n + 10)).data.toList = (s.data.toList.drop (10 * t.n)).take 10 := by rw [ex_list, List.drop_take]; congr 1; omega
      have hre : recEv (s.data.toList.drop (10 * t.n)) = e := by
        rw [← he, hex]
        conv => lhs; rw [← List.take_append_drop 10 (s.data.toList.drop (10 * t.n))]
        exact recEv_app _ _ (by rw [List.length_take, List.length_drop, HSZ.out]; omega)
      have hew : e.wf := by rw [← hre]; exact recEv_wf _
      have HO : Hid (∀ W, Calls Try.prog 29 #[.string (s.extract (10 * t.n) (10 * t.n + 10))] W fun r w' => r = .returned (.agg (evA e)) ∧ Below W.heap.size W w') := Lib.hid fun W => by
        rw [← he]
        exact one_any _ (by simp; omega) W
      have HY := Lib.hid fun (W : World) (hW : IsEvs W u6 t.K) => why_any e hew gs W u6 t.K hW (by omega)
      have HST : Hid (pst gs ((recs s.data.toList).take (t.n + 1)) = pstep gs t e) := Lib.hid (by
        rw [List.take_add_one, recs_at _ _ (by rw [HSZ.out]; exact hr), hre]
        show pst gs (_ ++ [e]) = _
        rw [pst_snoc, ← HT.out])
      obtain ⟨y, hy⟩ : ∃ y, whyN e gs (gr t.K e.g) = y := ⟨_, rfl⟩
      have hy2 : whyN e gs (t.F e.g) = y := by rw [hF.out]; exact hy
      have hy3 : y ≤ 3 := by rw [← hy]; exact why_le' _ _ _
      rw [hy] at HY
      have HY2 := Lib.hid hy2
      clear he hex hre hy hy2
      have q0 : 10 * (t.n : Int) < (s.size : Int) := by omega
      have q3 : (0 : Int) ≤ 10 * (t.n : Int) := by omega
      have q4 : 10 * (t.n : Int) ≤ 10 * (t.n : Int) + 10 := by omega
      have q5 : (0 : Int) ≤ 10 * (t.n : Int) + 10 := by omega
      have q6 : ¬ ((s.size : Int) < (10 * (t.n : Int)) + 10) := by omega
      have q7 : (10 * (t.n : Int)).toNat = 10 * t.n := by omega
      have q8 : (10 * (t.n : Int) + 10).toNat = 10 * t.n + 10 := by omega
      obtain ⟨et, eg, ek, ev⟩ := e
      obtain ⟨w1', w2', w3', w4'⟩ := hew
      simp only at w1' w2' w3' w4' HY HY2
      go_wp2_with fail
      refine (HO.out _).mono ?_
      rintro r w2 ⟨rfl, b2⟩
      have P2 := Lib.hid (HP.out.below b2)
      have HX := Lib.hid (Box.made w2 46 #[.int .u32 0, .int .u8 0, .int .u8 0, .int .u32 0])
      clear b2 HO HP
      go_wp2_with (first
        | (refine wpList_store_box rfl 46 _ _ rfl w2.heap.size #[.int .u32 et, .int .u8 eg, .int .u8 ek, .int .u32 ev] rfl rfl 46 _ HX.out (by kernel_rfl) rfl (by rw [← Array.all_toList]; rfl) ?_; intro w3 hb3 hbl3; have H3 := Lib.hid (And.intro hb3 (P2.out.below (((Below.refl _ w2).alloc (Nat.le_refl _) _).trans hbl3))); clear hb3 hbl3 P2 HX)
        | (refine wpList_load_row rfl 46 _ rfl w2.heap.size rfl 46 #[.int .u32 et, .int .u8 eg, .int .u8 ek, .int .u32 ev] (0, 0) _ H3.out.1 Try.underlying46 rfl (by kernel_rfl) ?_))
      refine (HY.out _ (own_evs H3.out.2.ke hWF.out)).mono ?_
      rintro r w4 ⟨rfl, b4⟩
      have HB := Lib.hid (H3.out.2.below b4)
      have HE := Lib.hid (H3.out.1.over b4 H3.out.1.inHeap)
      clear b4 H3 HY
      by_cases hz : y = 0
      · subst hz
        have hsk : pst gs ((recs s.data.toList).take (t.n + 1)) = t.keep ⟨et, eg, ek, ev⟩ := by rw [HST.out, pstep, HY2.out]; rfl
        have HSK := Lib.hid hsk
        clear hsk
        go_wp2_with (first
          | (refine wpList_load_row rfl 46 _ rfl w2.heap.size rfl 46 #[.int .u32 et, .int .u8 eg, .int .u8 ek, .int .u32 ev] (0, 0) _ HE.out Try.underlying46 rfl (by kernel_rfl) ?_)
          | (at_builtin; go_loud (refine wpList_append_own _ rfl _ _ 23 rfl w.heap.size 46 i0 (.agg #[.int .u32 0, .int .u8 0, .int .u8 0, .int .u32 0]) 4 12 Try.underlying23 hi iz0 iz1 iz2 rfl (by decide) u6 t.K.length (evs t.K) rfl (HB.out.ke.alloc _) ⟨w4.heap.size, 0, none⟩ 1 1 (evL ⟨et, eg, ek, ev⟩) rfl rfl ?c1 ?c2 ?c3 ?c4 ?c5 ?_)))
        case c1 =>
          intro j u hj2
          rcases j with _ | _ | _ | _ | j
          · simp [evL] at hj2; subst hj2; simp [Addr.add]
          · simp [evL] at hj2; subst hj2; simp [Addr.add]
          · simp [evL] at hj2; subst hj2; simp [Addr.add]
          · simp [evL] at hj2; subst hj2; simp [Addr.add]
          · simp [evL] at hj2
        case c2 => intro u hu; simp [evL] at hu; rcases hu with rfl | rfl | rfl | rfl <;> rfl
        case c3 => unfold maxLen; omega
        case c4 => omega
        case c5 => rw [World.size_alloc]; exact Nat.le_succ_of_le HB.out.bel.size
        · intro v' w8 hown' hgrow _
          have H7 := Lib.hid (HB.out.keep ⟨et, eg, ek, ev⟩ (grow_alloc hgrow) hown')
          clear hown' hgrow
          go_wp2
          go_roundw
          case rel => exact ⟨v', u7, t.keep ⟨et, eg, ek, ev⟩, rfl, rfl, by show _ = Value.int .i64 ((t.n + 1 : Nat) : Int); go_num, hr, HSK.out.symm, H7.out⟩
          case measure => simp [intOf]; omega
      · have hz2 : ((y : Int) != 0) = true := bne_iff_ne.2 (by omega)
        have hsk : pst gs ((recs s.data.toList).take (t.n + 1)) = t.skip y := by rw [HST.out, pstep, HY2.out, if_neg hz]
        have HSK := Lib.hid hsk
        clear hsk
        go_wp2_with (at_builtin; go_loud (refine wpList_append_own _ rfl _ _ 27 rfl w.heap.size 32 j0 (.agg #[.int .i64 0, .int .u8 0]) 2 16 Try.underlying27 hj jz0 jz1 jz2 rfl (by decide) u7 t.D.length (drs t.D) rfl (HB.out.dr.alloc _) ⟨w4.heap.size, 0, none⟩ 1 1 [.int .i64 t.n, .int .u8 y] rfl rfl ?c1 ?c2 ?c3 ?c4 ?c5 ?_))
        case c1 =>
          intro j u hj2
          rcases j with _ | _ | j
          · simp at hj2; subst hj2; simp [Addr.add]
          · simp at hj2; subst hj2; simp [Addr.add]
          · simp at hj2
        case c2 => intro u hu; simp at hu; rcases hu with rfl | rfl <;> rfl
        case c3 => unfold maxLen; omega
        case c4 => omega
        case c5 => rw [World.size_alloc]; exact Nat.le_succ_of_le HB.out.bel.size
        · intro v' w7 hown' hgrow _
          have H7 := Lib.hid (HB.out.skip y (grow_alloc hgrow) hown')
          clear hown' hgrow
          go_wp2
          go_roundw
          case rel => exact ⟨u6, v', t.skip y, rfl, rfl, by show _ = Value.int .i64 ((t.n + 1 : Nat) : Int); go_num, hr, HSK.out.symm, H7.out⟩
          case measure => simp [intOf]; omega
    · have hnN : t.n = s.size / 10 := by omega
      have hall : t = pst gs (recs s.data.toList) := by
        have h := HT.out
        rw [hnN, List.take_of_length_le (by rw [recs_len, HSZ.out]; exact Nat.le_refl _)] at h
        exact h
      have hK : Hid (parK gs s.data.toList = t.K) := Lib.hid (by unfold parK; rw [← hall])
      have HB := HP
      by_cases hz : s.size % 10 = 0
      · have g1 : ¬ 10 * (t.n : Int) < (s.size : Int) := by omega
        have hD : Hid (parD gs s.data.toList = t.D) := Lib.hid (by unfold parD; rw [← hall, HSZ.out, if_pos hz, List.append_nil])
        clear hall hnN
        go_wp2
        go_ret2
        rw [hK.out, hD.out]
        exact ⟨_, _, rfl, HP.out.ke, HP.out.dr, HP.out.bel⟩
      · have g1 : 10 * (t.n : Int) < (s.size : Int) := by omega
        have g2 : (s.size : Int) < 10 * (t.n : Int) + 10 := by omega
        have hD : Hid (parD gs s.data.toList = t.D ++ [⟨t.n, 1⟩]) := Lib.hid (by unfold parD; rw [← hall, HSZ.out, if_neg hz, hnN])
        clear hall hnN
        go_wp2_with (at_builtin; go_loud (refine wpList_append_own _ rfl _ _ 27 rfl w.heap.size 32 j0 (.agg #[.int .i64 0, .int .u8 0]) 2 16 Try.underlying27 hj jz0 jz1 jz2 rfl (by decide) u7 t.D.length (drs t.D) rfl (HP.out.dr.alloc _) ⟨wr.heap.size, 0, none⟩ 1 1 [.int .i64 t.n, .int .u8 1] rfl rfl ?c1 ?c2 ?c3 ?c4 ?c5 ?_))
        case c1 =>
          intro j u hj2
          rcases j with _ | _ | j
          · simp at hj2; subst hj2; simp [Addr.add]
          · simp at hj2; subst hj2; simp [Addr.add]
          · simp at hj2
        case c2 => intro u hu; simp at hu; rcases hu with rfl | rfl <;> rfl
        case c3 => unfold maxLen; omega
        case c4 => omega
        case c5 => rw [World.size_alloc]; exact Nat.le_succ_of_le HB.out.bel.size
        · intro v' w7 hown' hgrow _
          have H7 := Lib.hid (HP.out.skipped t.n 1 (grow_alloc hgrow) hown')
          clear hown' hgrow
          go_wp2
          go_ret2
          rw [hK.out, hD.out]
          exact ⟨_, _, rfl, H7.out⟩
end Go.Proofs.Ytilfhkagfjdfkaa
