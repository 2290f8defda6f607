/- EventApart's body. -/
import Derived.Test.YtilfhkagfjdfkaaEI
set_option linter.unusedVariables false
set_option linter.unusedSimpArgs false
namespace Go.Proofs.Ytilfhkagfjdfkaa
open Go.RowKit
attribute [local go_sem] Oper.semAt_some
theorem own_cap {w : World} {base ty sz n : Nat} {v : Value} {cs : List Value} (h : w.ownsRow base ty sz v n cs) : ∃ a cap, v = .slice a n cap ∧ n ≤ cap := by
  have h2 := h.2
  rcases h2 with ⟨rfl, h0⟩ | ⟨g, cap, cur, rfl, hg, hh, hn, hcap, hsz, htake⟩
  · subst h0
    exact ⟨none, 0, rfl, Nat.le_refl _⟩
  · exact ⟨_, cap, rfl, by omega⟩
theorem IsEvs.pre {w : World} {a : Option Addr} {n cap : Nat} {l r : List Ev} (h : IsEvs w (.slice a n cap) (l ++ r)) (cap' : Nat) : IsEvs w (.slice a l.length cap') l := by
  obtain ⟨a', c', e, hw, hc⟩ := h
  cases e
  exact ⟨a, cap', rfl, fun e he => hw e (List.mem_append_left _ he), fun k e hk => hc k e (by rw [List.getElem?_append_left (List.getElem?_eq_some_iff.1 hk).1]; exact hk)⟩
set_option maxRecDepth 100000 in
theorem apart_long1 (s t : ByteArray) (h : 600 < s.size) (gs : Int) (w : World) : Calls Try.prog 7 #[.string s, .string t, .int .i64 gs] w (Yes w) := by
  have h' : (600 : Int) < (s.size : Int) := by omega
  go_enter Try.func7, Try.ntmps7
  go_wp2_with (go_at_call 10; refine (awake_any _).mono ?_; rintro e w' ⟨rfl, bel⟩)
  go_ret
  exact ⟨rfl, bel⟩
set_option maxRecDepth 100000 in
theorem apart_long2 (s t : ByteArray) (h0 : s.size ≤ 600) (h : 600 < t.size) (gs : Int) (w : World) : Calls Try.prog 7 #[.string s, .string t, .int .i64 gs] w (Yes w) := by
  have h0' : ¬ (600 : Int) < (s.size : Int) := by omega
  have h' : (600 : Int) < (t.size : Int) := by omega
  go_enter Try.func7, Try.ntmps7
  go_wp2_with (go_at_call 10; refine (awake_any _).mono ?_; rintro e w' ⟨rfl, bel⟩)
  go_ret
  exact ⟨rfl, bel⟩
set_option maxHeartbeats 8000000 in
set_option maxRecDepth 100000 in
theorem apart_all (s t : ByteArray) (h0 : s.size ≤ 600) (h1 : t.size ≤ 600) (gs : Int) (w : World) : Calls Try.prog 7 #[.string s, .string t, .int .i64 gs] w (Yes w) := by
  have h0' : ¬ (600 : Int) < (s.size : Int) := by omega
  have h1' : ¬ (600 : Int) < (t.size : Int) := by omega
  go_enter Try.func7, Try.ntmps7
  go_wp2_with fail
  obtain ⟨m, hm⟩ : ∃ m, s.size / 10 = m := ⟨_, rfl⟩
  have hm60 : m ≤ 60 := by omega
  have hxl : (s.extract 0 (s.size / 10 * 10)).data.toList.length = 10 * m := by rw [ex_list]; simp; omega
  have hxs : (s.extract 0 (s.size / 10 * 10)).size = 10 * m := by rw [← hxl]; exact (Array.length_toList).symm
  generalize s.extract 0 (s.size / 10 * 10) = x at hxl hxs ⊢
  have hx600 : x.size ≤ 600 := by omega
  have hxt : ¬ 9223372036854775807 < x.size + t.size := by omega
  have htl : t.data.toList.length = t.size := Array.length_toList
  have HA : Hid (∀ d ∈ parD gs x.data.toList, d.n < m ∧ 1 ≤ d.why ∧ parK gs (x.data.toList.take (10 * d.n) ++ x.data.toList.drop (10 * d.n + 10)) = parK gs x.data.toList) := Lib.hid fun d hd => by
    have h := apart_one gs x.data.toList (by omega) d hd
    rw [hxl] at h
    exact ⟨by omega, h.2⟩
  have HP := Lib.hid (apart_pre gs x.data.toList t.data.toList (by omega))
  have HW := Lib.hid (parK_wf gs x.data.toList)
  have HLN : Hid ((parK gs x.data.toList).length ≤ 60 ∧ (parD gs x.data.toList).length ≤ 61) := Lib.hid ⟨by have := parK_len gs x.data.toList; omega, by have := parD_len gs x.data.toList; omega⟩
  have HXT : Hid ((x ++ t).data.toList = x.data.toList ++ t.data.toList) := Lib.hid (by simp)
  have HXD : Hid (∀ n, n < m → (x.extract 0 (10 * n) ++ x.extract (10 * n + 10) x.size).data.toList = x.data.toList.take (10 * n) ++ x.data.toList.drop (10 * n + 10)) := Lib.hid fun n hn => by
    rw [ByteArray.data_append, Array.toList_append, ex_list, ex_list, List.drop_zero, List.take_of_length_le (l := x.data.toList) (i := x.size) (by omega)]
  have HXZ := Lib.hid hxs
  refine (parse_any x (by omega) gs _).mono ?_
  rintro e w1 ⟨vk, vd, rfl, hk, hd, b1⟩
  have HK := Lib.hid (own_evs hk HW.out)
  have HD := Lib.hid (own_drs hd)
  have T1 := Lib.hid b1
  clear hk hd b1
  generalize parK gs x.data.toList = Kl at HA HP HW HLN HK
  generalize parD gs x.data.toList = Dl at HA HP HLN HD
  obtain ⟨ak, ck, rfl, hkc1, hkc2⟩ := id HK.out
  clear hkc1 hkc2
  obtain ⟨ad, cd, rfl, hdc⟩ := id HD.out
  have HDC := Lib.hid hdc
  clear hdc
  obtain ⟨kn, hkn⟩ : ∃ n, Kl.length = n := ⟨_, rfl⟩
  obtain ⟨dn, hdn⟩ : ∃ n, Dl.length = n := ⟨_, rfl⟩
  have HKN := Lib.hid hkn
  have HDN := Lib.hid hdn
  rw [hkn] at HK HLN ⊢
  rw [hdn] at HD HLN ⊢
  clear hkn hdn hm hxl hxs h0 h0' h1'
  go_wp2
  go_loopw [9] (fun i wr => ∃ k : Nat, k ≤ dn ∧ i = .int .i64 k ∧ Below w1.heap.size w1 wr) (fun i _ => dn - (intOf i).toNat)
  case atStart => exact ⟨0, Nat.zero_le _, rfl, Below.refl _ _⟩
  case round =>
    obtain ⟨k, hk, rfl, hb⟩ := hrel
    have k1 : (0 : Int) ≤ (k : Int) := Int.natCast_nonneg _
    have HB := Lib.hid hb
    clear hb
    by_cases hlt : k < dn
    · have k2 : (k : Int) < (dn : Int) := by omega
      obtain ⟨d, hdk⟩ : ∃ e, Dl[k]? = some e := ⟨_, List.getElem?_eq_getElem (by rw [HDN.out]; exact hlt)⟩
      obtain ⟨b, off, rfl, hbb, hr⟩ := HDC.out k d hdk
      have hmem := List.mem_of_getElem? hdk
      obtain ⟨hn1, _, hpk⟩ := HA.out d hmem
      have c0 : wr.cell? ⟨b, off + k * 2, none⟩ = some (.int .i64 d.n) := range_below hr hbb HB.out 0 _ rfl
      obtain ⟨n, hn⟩ : ∃ n, d.n = n := ⟨_, rfl⟩
      rw [hn] at hn1 hpk c0
      have HN := Lib.hid hn1
      have n0 : ¬ (n : Int) < 0 := by omega
      have n1 : ¬ ((x.size : Int) / 10 ≤ (n : Int)) := by rw [HXZ.out]; omega
      have n2 : 10 * n ≤ x.size := by rw [HXZ.out]; omega
      have n3 : 10 * n + 10 ≤ x.size := by rw [HXZ.out]; omega
      clear hn hdk hr hbb hmem
      have n4 : ¬ 9223372036854775807 < 10 * n + (x.size - (10 * n + 10)) := by omega
      have hd61 : dn ≤ 61 := HLN.out.2
      have HS := Lib.hid (HXD.out n hn1)
      have q0 : n ≤ 60 := by omega
      have q1 : IntKind.i64.wrap (10 * (n : Int)) = 10 * (n : Int) := by rw [IntKind.wrap_i64]; omega
      have q2 : IntKind.i64.wrap (10 * (n : Int) + 10) = 10 * (n : Int) + 10 := by rw [IntKind.wrap_i64]; omega
      have q3 : (0 : Int) ≤ 10 * (n : Int) := by omega
      have q4 : (10 * (n : Int)) ≤ (x.size : Int) := by omega
      have q5 : (0 : Int) ≤ 10 * (n : Int) + 10 := by omega
      have q6 : (10 * (n : Int)) + 10 ≤ (x.size : Int) := by omega
      have q7 : (10 * (n : Int)).toNat = 10 * n := by omega
      have q8 : (10 * (n : Int) + 10).toNat = 10 * n + 10 := by omega
      have HPK := Lib.hid hpk
      have HZ : Hid ((x.extract 0 (10 * n) ++ x.extract (10 * n + 10) x.size).size ≤ 100000) := Lib.hid (by simp; omega)
      clear hn1 hpk
      go_wp2
      refine wp_region_calm (fun w' => Below w1.heap.size w1 w')
        (.e 0 :: .e 0 :: .e 0 :: .e 0 :: .e 0 :: .e 0 :: .e 0 :: .e 0 :: .e 0 :: .e 0 :: .e 0 :: .l 0 :: .e 0 :: .e 0 :: .e 0 :: .e 0 :: .e 0 :: []) (by kernel_rfl) (by kernel_rfl) (by kernel_rfl) (by kernel_rfl) ?_
      have hHeld : Below w1.heap.size w1 wr.drew := HB.out.drew
      repeat (refine mv_take0 (v := ?_) (by rfl) hHeld ?_ ?_; rotate_left 1; (focus (intro w hSw; (try dsimp only at hSw); go_simp; (try with_reducible rfl); done)); (try simp only [Act.put, List.setIfInBounds_toArray, List.set_cons_zero, List.set_cons_succ]))
      refine mv_loud0 (by rfl) (fun K2 hK => ?_)
      go_simp
      go_at_call 11
      refine (parse_any _ HZ.out gs _).mono ?_
      rintro e w2 ⟨vk2, vd2, rfl, hk2, _, b2⟩
      rw [HS.out, HPK.out] at hk2
      have HK2 := Lib.hid (own_evs hk2 HW.out)
      have T2 : Hid (Below w1.heap.size w1 w2) := Lib.hid (hHeld.trans (b2.mono hHeld.size))
      clear hk2 b2 hHeld
      have hHeld := T2.out
      refine hK.out _ _ hHeld ?_
      clear hK K2
      (try simp only [Act.put, List.setIfInBounds_toArray, List.set_cons_zero, List.set_cons_succ])
      repeat (refine mv_take0 (v := ?_) (by rfl) hHeld ?_ ?_; rotate_left 1; (focus (intro w hSw; (try dsimp only at hSw); go_simp; (try with_reducible rfl); done)); (try simp only [Act.put, List.setIfInBounds_toArray, List.set_cons_zero, List.set_cons_succ]))
      refine mv_calm ?_
      clear hHeld n4 q0 q1 q2 q3 q4 q5 q6 q7 q8
      go_wp2_with fail
      refine (same_any w2 _ _ _ _ HK2.out (HK.out.below T2.out) (by have := HLN.out.1; have := HKN.out; omega)).mono ?_
      rintro e w3 ⟨rfl, b3⟩
      rw [decide_eq_true rfl]
      have T3 : Hid (Below w1.heap.size w1 w3) := Lib.hid (T2.out.trans (b3.mono T2.out.size))
      clear b3 T2 HK2
      go_wp2
      go_roundw
      case rel => exact ⟨k + 1, by omega, by go_num, T3.out⟩
      case measure => simp [intOf]; omega
    · obtain rfl : k = dn := by omega
      have HZ : Hid ((x ++ t).size ≤ 100000) := Lib.hid (by simp; omega)
      clear hlt hk
      go_wp2_with fail
      refine (parse_any _ HZ.out gs _).mono ?_
      rintro e w2 ⟨vk2, vd2, rfl, hk2, hd2, b2⟩
      have hwf2 := parK_wf gs (x.data.toList ++ t.data.toList)
      rw [HXT.out] at hk2 hd2
      obtain ⟨⟨k2, e1⟩, ⟨d2, e2⟩⟩ := HP.out
      rw [e1] at hk2 hwf2
      rw [e2] at hd2
      have HK2 := Lib.hid (own_evs hk2 hwf2)
      have HD2 := Lib.hid (own_drs hd2)
      have T2 : Hid (Below w1.heap.size w1 w2) := Lib.hid (HB.out.trans (b2.mono HB.out.size))
      have hsh := own_cap hk2
      clear b2 hd2 hk2 e1 e2 hwf2
      obtain ⟨a2, c2, rfl, hc2⟩ := hsh
      obtain ⟨ad2, cd2, rfl, hdc2⟩ := id HD2.out
      have HDC2 := Lib.hid hdc2
      have HK3 := Lib.hid (HK2.out.pre)
      have hl1 : k ≤ (Dl ++ d2).length := by rw [List.length_append]; have := HDN.out; omega
      have hl2 : kn ≤ (Kl ++ k2).length := by rw [List.length_append]; have := HKN.out; omega
      clear hdc2 HD2 HK2
      generalize (Kl ++ k2).length = kn2 at hl2 hc2 HK3 ⊢
      generalize (Dl ++ d2).length = dn2 at hl1 ⊢
      have hc3 : kn ≤ c2 := by omega
      have hl3 : ¬ ((kn2 : Int) < (kn : Int)) := by omega
      have hl4 : ¬ ((dn2 : Int) < (k : Int)) := by omega
      have HL := Lib.hid (And.intro hl1 hl2)
      clear hl1 hl2 hc2
      go_wp2_with fail
      have h3 := HK3.out c2
      rw [HKN.out] at h3
      refine (same_any w2 _ _ Kl Kl h3 (HK.out.below T2.out) (by have := HLN.out.1; have := HKN.out; omega)).mono ?_
      rintro e w3 ⟨rfl, b3⟩
      rw [decide_eq_true rfl]
      have T3 : Hid (Below w1.heap.size w1 w3) := Lib.hid (T2.out.trans (b3.mono T2.out.size))
      have B3 := Lib.hid b3
      clear b3 h3 HB
      go_wp2
      go_loopw [15] (fun i wr => ∃ j : Nat, j ≤ k ∧ i = .int .i64 j ∧ ∃ q, wr = w3.drewN q) (fun i _ => k - (intOf i).toNat)
      case atStart => exact ⟨0, Nat.zero_le _, rfl, 0, (World.drewN_zero _).symm⟩
      case round =>
        obtain ⟨j, hj, rfl, q0, rfl⟩ := hrel
        have j1 : (0 : Int) ≤ (j : Int) := Int.natCast_nonneg _
        have hd61 : k ≤ 61 := HLN.out.2
        by_cases hlt : j < k
        · have j2 : (j : Int) < (k : Int) := by omega
          have j3 : (j : Int) < (dn2 : Int) := by have := HL.out.1; omega
          obtain ⟨d, hdk⟩ : ∃ e, Dl[j]? = some e := ⟨_, List.getElem?_eq_getElem (by rw [HDN.out]; exact hlt)⟩
          obtain ⟨b, off, rfl, hbb, hr⟩ := HDC.out j d hdk
          obtain ⟨b', off', rfl, hbb', hr'⟩ := HDC2.out j d (by rw [List.getElem?_append_left (by rw [HDN.out]; exact hlt)]; exact hdk)
          have R1 : Hid (∀ q, ((w3.drewN q0).drewN q).rangeAt b (off + j * 2) (drL d)) := Lib.hid fun q => range_below hr hbb (below_drawn (below_drawn T3.out _) _)
          have R2 : Hid (∀ q, ((w3.drewN q0).drewN q).rangeAt b' (off' + j * 2) (drL d)) := Lib.hid fun q => range_below hr' hbb' (below_drawn (below_drawn B3.out _) _)
          have rn : ∀ w, (binOp .neq 33 (.agg (drL d).toArray) (.agg (drL d).toArray)).run Try.prog w = .ok (.bool false) w := fun w => neq_dr d w
          clear hdk hr hbb hr' hbb'
          go_wp2
          refine wp_region_quiet_lit (by kernel_rfl) (by kernel_rfl) ?_
          repeat (first
            | (refine wpQuiet_mid (by rfl) 33 _ rfl b' (off' + j * 2) rfl (drL d) _ (fun w' hw' => by obtain ⟨q, rfl⟩ := hw'; exact R2.out q) Try.underlying33 rfl rfl ?_; simp only [Act.put, List.setIfInBounds_toArray, List.set_cons_zero, List.set_cons_succ])
            | (refine wpQuiet_mid (by rfl) 33 _ rfl b (off + j * 2) rfl (drL d) _ (fun w' hw' => by obtain ⟨q, rfl⟩ := hw'; exact R1.out q) Try.underlying33 rfl rfl ?_; simp only [Act.put, List.setIfInBounds_toArray, List.set_cons_zero, List.set_cons_succ])
            | go_big_quiet_step (fail))
          refine wpQuiet_nil ?_
          intro w9 hw9
          obtain ⟨nq, hw9⟩ := hw9
          subst hw9
          go_wp2
          go_roundw
          case rel => exact ⟨j + 1, by omega, by go_num, q0 + nq, rfl⟩
          case measure => simp [intOf]; omega
        · obtain rfl : j = k := by omega
          have T4 : Hid (Below w.heap.size w (w3.drewN q0)) := Lib.hid (below_drawn (T1.out.trans (T3.out.mono T1.out.size)) q0)
          clear hlt hj
          go_wp2_with (go_at_call 10; refine (awake_any _).mono ?_; rintro e w8 ⟨rfl, bel⟩)
          go_ret
          exact ⟨rfl, T4.out.trans (bel.mono T4.out.size)⟩
end Go.Proofs.Ytilfhkagfjdfkaa
