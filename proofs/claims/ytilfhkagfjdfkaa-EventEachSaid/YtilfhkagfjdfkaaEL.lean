/- EventEach's body. -/
import Derived.Test.YtilfhkagfjdfkaaEK
import Derived.Lib.AppendStr
set_option linter.unusedVariables false
set_option linter.unusedSimpArgs false
namespace Go.Proofs.Ytilfhkagfjdfkaa
open Go.RowKit Go.Lib
attribute [local go_sem] Oper.semAt_some
theorem conv_yields {P : Program} {o : Oper} {a : Act} {w : World} (t1 t2 : TypeId) (x : Operand) (ho : o.op = .convert t1 t2 x) (v r : Value) (hx : a.eval x = v) (h : (convert t1 t2 v).run P w = .ok r w) : (execOp a.eval o).run P w = .ok (.value r) w := by
  unfold execOp
  simp only [ho, hx, Sem.run_bind, Sem.run_pure, Result.andThen_ok, h]
set_option maxRecDepth 100000 in
theorem each_long (s : ByteArray) (h : 1000 < s.size) (gs : Int) (w : World) : Calls Try.prog 6 #[.string s, .int .i64 gs] w (Yes w) := by
  have h' : (1000 : Int) < (s.size : Int) := by omega
  go_enter Try.func6, Try.ntmps6
  go_wp2_with (go_at_call 10; refine (awake_any _).mono ?_; rintro e w' ⟨rfl, bel⟩)
  go_ret
  exact ⟨rfl, bel⟩
set_option maxHeartbeats 16000000 in
set_option maxRecDepth 100000 in
theorem each_all (s : ByteArray) (h0 : s.size ≤ 1000) (gs : Int) (w : World) : Calls Try.prog 6 #[.string s, .int .i64 gs] w (Yes w) := by
  obtain ⟨i0, hi, hz0, hz1, hz2⟩ := info_parts info5
  have h0' : ¬ (1000 : Int) < (s.size : Int) := by omega
  have hll : s.data.toList.length = s.size := Array.length_toList
  have HR := Lib.hid (each_round gs s.data.toList)
  have HE := Lib.hid (each_end gs s.data.toList)
  have HS := Lib.hid (each_start gs s.data.toList)
  have HKL : Hid (∀ i, (buildL (kpA gs s.data.toList i)).length ≤ 10 * i) := Lib.hid fun i => by rw [buildL_len]; have := kpA_len gs s.data.toList i; omega
  have HW := Lib.hid (parK_wf gs s.data.toList)
  have HG : Hid ((∀ e ∈ parK gs s.data.toList, (e.g : Int) < gs) ∧ ∀ (i j : Nat) (a b : Ev), j < i → (parK gs s.data.toList)[i]? = some a → (parK gs s.data.toList)[j]? = some b → b.g = a.g → b.t ≤ a.t) := Lib.hid ⟨(par_good gs s.data.toList).g, (par_good gs s.data.toList).m⟩
  have HPA := Lib.hid (par_again gs s.data.toList)
  have hsum := each_sum gs s.data.toList
  rw [hll] at hsum
  rw [hll] at HR HE
  go_enter Try.func6, Try.ntmps6
  go_wp2_with fail
  refine (parse_any s (by omega) gs _).mono ?_
  rintro e w1 ⟨vk, vd, rfl, hk, hd, b1⟩
  have HK := Lib.hid (own_evs hk HW.out)
  have HD := Lib.hid (own_drs hd)
  have T1 := Lib.hid b1
  clear hk hd b1
  generalize parK gs s.data.toList = Kl at HE HW HG HPA HK hsum
  generalize parD gs s.data.toList = Dl at HR HE HD hsum
  obtain ⟨ak, ck, rfl, hkc1, hkc⟩ := id HK.out
  obtain ⟨ad, cd, rfl, hdc⟩ := id HD.out
  have HDC := Lib.hid hdc
  have HKC := Lib.hid hkc
  clear hdc hkc1 hkc
  obtain ⟨kn, hkn⟩ : ∃ n, Kl.length = n := ⟨_, rfl⟩
  obtain ⟨dn, hdn⟩ : ∃ n, Dl.length = n := ⟨_, rfl⟩
  have HKN := Lib.hid hkn
  have HDN := Lib.hid hdn
  rw [hkn] at HK hsum ⊢
  rw [hdn] at HD HE hsum ⊢
  clear hkn hdn
  have hkn1 : kn ≤ 100 := by omega
  have hdn1 : dn ≤ 101 := by omega
  have hsum1 : (((kn : Int) + (dn : Int)) != ((s.size : Int) + 9) / 10) = false := by rw [bne_eq_false_iff_eq]; omega
  have HSM := Lib.hid hsum
  clear hsum
  go_wp2
  go_loopw [7, 8, 9] (fun a r i wr => ∃ k : Nat, k ≤ (s.size + 9) / 10 ∧ a = .int .i64 (atA gs s.data.toList k : Nat) ∧ i = .int .i64 k ∧ wr.ownsRow w1.heap.size 5 1 r (buildL (kpA gs s.data.toList k)).length (vals (buildL (kpA gs s.data.toList k))) ∧ Below w1.heap.size w1 wr) (fun _ _ i _ => (s.size + 9) / 10 - (intOf i).toNat)
  case atStart => exact ⟨0, Nat.zero_le _, by rw [HS.out.2]; rfl, rfl, by rw [HS.out.1]; exact World.ownsRow_nil _ _ _ _, Below.refl _ _⟩
  case round =>
    obtain ⟨k, hk, rfl, rfl, hown, hb⟩ := hrel
    have k1 : (0 : Int) ≤ (k : Int) := Int.natCast_nonneg _
    have HB := Lib.hid hb
    clear hb
    by_cases hlt : k < (s.size + 9) / 10
    · have k2 : (k : Int) < ((s.size : Int) + 9) / 10 := by omega
      rcases HR.out k hlt with ⟨y, hy0, hy1, hy3, hat, hkp⟩ | ⟨hno, hfit, hat, hbuild⟩
      · obtain ⟨A, hA⟩ : ∃ n, atA gs s.data.toList k = n := ⟨_, rfl⟩
        rw [hA] at hy0 hat ⊢
        have hAd : A < dn := by have := (List.getElem?_eq_some_iff.1 hy0).1; have := HDN.out; omega
        obtain ⟨b, off, rfl, hbb, hr⟩ := HDC.out A _ hy0
        have c0 : wr.cell? ⟨b, off + A * 2, none⟩ = some (.int .i64 k) := range_below hr hbb HB.out 0 _ rfl
        have c1 : wr.cell? ⟨b, off + A * 2 + 1, none⟩ = some (.int .u8 y) := range_below hr hbb HB.out 1 _ rfl
        have a1 : (0 : Int) ≤ (A : Int) := Int.natCast_nonneg _
        have a2 : (A : Int) < (dn : Int) := by omega
        have y1 : ¬ (y : Int) < 1 := by omega
        have y3 : ¬ (3 : Int) < (y : Int) := by omega
        have HO := Lib.hid (by rw [← hkp] at hown; exact hown)
        clear hr hbb hy0 hown hkp hA
        go_wp2
        go_roundw
        case rel => exact ⟨k + 1, by omega, by rw [hat]; go_num, by go_num, HO.out, HB.out⟩
        case measure => simp [intOf]; omega
      · by_cases hAd : atA gs s.data.toList k < dn
        · obtain ⟨d, hdk⟩ : ∃ e, Dl[atA gs s.data.toList k]? = some e := ⟨_, List.getElem?_eq_getElem (by rw [HDN.out]; exact hAd)⟩
          have hnk := hno d hdk
          obtain ⟨b, off, rfl, hbb, hr⟩ := HDC.out _ _ hdk
          have c0 : wr.cell? ⟨b, off + atA gs s.data.toList k * 2, none⟩ = some (.int .i64 d.n) := range_below hr hbb HB.out 0 _ rfl
          obtain ⟨A, hA⟩ : ∃ n, atA gs s.data.toList k = n := ⟨_, rfl⟩
          obtain ⟨n, hn⟩ : ∃ n, d.n = n := ⟨_, rfl⟩
          rw [hA] at c0 hAd hat ⊢
          rw [hn] at c0 hnk
          have a1 : (0 : Int) ≤ (A : Int) := Int.natCast_nonneg _
          have a2 : (A : Int) < (dn : Int) := by omega
          have hnk2 : ((n : Int) == (k : Int)) = false := by rw [beq_eq_false_iff_ne]; omega
          have HNO := Lib.hid hnk
          clear hr hbb hdk hn hno hA hnk
          have hc1 : ((s.extract (10 * k) (10 * k + 10)).data.toList) = (s.data.toList.drop (10 * k)).take 10 := by rw [ex_list, List.drop_take]; congr 1; omega
          have hc2 : (s.extract (10 * k) (10 * k + 10)).size = 10 := by simp; omega
          have HC := Lib.hid (And.intro hc1 hc2)
          have HO := Lib.hid hown
          have HBL := Lib.hid hbuild
          have q1 : IntKind.i64.wrap (10 * (k : Int)) = 10 * (k : Int) := by rw [IntKind.wrap_i64]; omega
          have q2 : IntKind.i64.wrap (10 * (k : Int) + 10) = 10 * (k : Int) + 10 := by rw [IntKind.wrap_i64]; omega
          have q6 : ¬ ((s.size : Int) < (10 * (k : Int)) + 10) := by omega
          have q3 : (0 : Int) ≤ 10 * (k : Int) := by omega
          have q4 : 10 * (k : Int) ≤ 10 * (k : Int) + 10 := by omega
          have q5 : (0 : Int) ≤ 10 * (k : Int) + 10 := by omega
          have q7 : (10 * (k : Int)).toNat = 10 * k := by omega
          have q8 : (10 * (k : Int) + 10).toNat = 10 * k + 10 := by omega
          clear hc1 hc2 hown hbuild
          go_wp2_with (at_builtin; go_loud (refine wpList_append_own_string _ rfl _ _ 53 9 rfl w1.heap.size 5 i0 Try.underlying53 Try.underlying9 hi hz0 hz1 hz2 _ _ _ rfl HO.out (s.extract (10 * k) (10 * k + 10)) rfl ?c1 ?c2 ?c3 ?_))
          case c1 => have := HKL.out k; first | omega | (unfold maxLen; omega)
          case c2 => have := HKL.out k; omega
          case c3 => exact HB.out.size
          intro v' w' hown' hgr _
          have HN : Hid (w'.ownsRow w1.heap.size 5 1 v' (buildL (kpA gs s.data.toList (k + 1))).length (vals (buildL (kpA gs s.data.toList (k + 1))))) := Lib.hid (by
            have e2 : ((s.data.toList.drop (10 * k)).take 10).length = 10 := by rw [List.length_take, List.length_drop]; omega
            rw [HBL.out, List.length_append, e2, ← HC.out.1]
            have e1 : vals (buildL (kpA gs s.data.toList k) ++ (s.extract (10 * k) (10 * k + 10)).data.toList) = vals (buildL (kpA gs s.data.toList k)) ++ Lib.strCells (s.extract (10 * k) (10 * k + 10)) := by simp [vals, Lib.strCells]
            rw [e1]
            exact hown')
          have T2 : Hid (Below w1.heap.size w1 w') := Lib.hid (HB.out.grown hgr HB.out.size (fun j hj => (HO.out.lt j hj).1))
          clear hown' hgr
          go_wp2
          go_roundw
          case rel => exact ⟨k + 1, by omega, by rw [hat], by go_num, HN.out, T2.out⟩
          case measure => simp [intOf]; omega
        · obtain ⟨A, hA⟩ : ∃ n, atA gs s.data.toList k = n := ⟨_, rfl⟩
          rw [hA] at hAd hat ⊢
          have a1 : (0 : Int) ≤ (A : Int) := Int.natCast_nonneg _
          have a2 : ¬ (A : Int) < (dn : Int) := by omega
          clear hno hA
          have hc1 : ((s.extract (10 * k) (10 * k + 10)).data.toList) = (s.data.toList.drop (10 * k)).take 10 := by rw [ex_list, List.drop_take]; congr 1; omega
          have hc2 : (s.extract (10 * k) (10 * k + 10)).size = 10 := by simp; omega
          have HC := Lib.hid (And.intro hc1 hc2)
          have HO := Lib.hid hown
          have HBL := Lib.hid hbuild
          have q1 : IntKind.i64.wrap (10 * (k : Int)) = 10 * (k : Int) := by rw [IntKind.wrap_i64]; omega
          have q2 : IntKind.i64.wrap (10 * (k : Int) + 10) = 10 * (k : Int) + 10 := by rw [IntKind.wrap_i64]; omega
          have q6 : ¬ ((s.size : Int) < (10 * (k : Int)) + 10) := by omega
          have q3 : (0 : Int) ≤ 10 * (k : Int) := by omega
          have q4 : 10 * (k : Int) ≤ 10 * (k : Int) + 10 := by omega
          have q5 : (0 : Int) ≤ 10 * (k : Int) + 10 := by omega
          have q7 : (10 * (k : Int)).toNat = 10 * k := by omega
          have q8 : (10 * (k : Int) + 10).toNat = 10 * k + 10 := by omega
          clear hc1 hc2 hown hbuild
          go_wp2_with (at_builtin; go_loud (refine wpList_append_own_string _ rfl _ _ 53 9 rfl w1.heap.size 5 i0 Try.underlying53 Try.underlying9 hi hz0 hz1 hz2 _ _ _ rfl HO.out (s.extract (10 * k) (10 * k + 10)) rfl ?c1 ?c2 ?c3 ?_))
          case c1 => have := HKL.out k; first | omega | (unfold maxLen; omega)
          case c2 => have := HKL.out k; omega
          case c3 => exact HB.out.size
          intro v' w' hown' hgr _
          have HN : Hid (w'.ownsRow w1.heap.size 5 1 v' (buildL (kpA gs s.data.toList (k + 1))).length (vals (buildL (kpA gs s.data.toList (k + 1))))) := Lib.hid (by
            have e2 : ((s.data.toList.drop (10 * k)).take 10).length = 10 := by rw [List.length_take, List.length_drop]; omega
            rw [HBL.out, List.length_append, e2, ← HC.out.1]
            have e1 : vals (buildL (kpA gs s.data.toList k) ++ (s.extract (10 * k) (10 * k + 10)).data.toList) = vals (buildL (kpA gs s.data.toList k)) ++ Lib.strCells (s.extract (10 * k) (10 * k + 10)) := by simp [vals, Lib.strCells]
            rw [e1]
            exact hown')
          have T2 : Hid (Below w1.heap.size w1 w') := Lib.hid (HB.out.grown hgr HB.out.size (fun j hj => (HO.out.lt j hj).1))
          clear hown' hgr
          go_wp2
          go_roundw
          case rel => exact ⟨k + 1, by omega, by rw [hat], by go_num, HN.out, T2.out⟩
          case measure => simp [intOf]; omega
    · obtain rfl : k = (s.size + 9) / 10 := by omega
      have k2 : ¬ ((((s.size + 9) / 10 : Nat) : Int) < ((s.size : Int) + 9) / 10) := by omega
      rw [HE.out.1] at hown
      rw [HE.out.2]
      have HO := Lib.hid hown
      clear hown hlt hk
      generalize (s.size + 9) / 10 = nC at *
      have HBW := Lib.hid (fun q => below_drawn HB.out q)
      obtain ⟨wo, rfl⟩ : ∃ wo : World, wo = wr := ⟨_, rfl⟩
      clear HB
      go_wp2
      go_loopw [10] (fun i wr => ∃ p : Nat, p ≤ kn ∧ i = .int .i64 p ∧ ∃ j, wr = wo.drewN j) (fun i _ => kn - (intOf i).toNat)
      case atStart => exact ⟨0, Nat.zero_le _, rfl, 0, (World.drewN_zero _).symm⟩
      case round =>
        obtain ⟨p, hp, rfl, q0, rfl⟩ := hrel
        have p1 : (0 : Int) ≤ (p : Int) := Int.natCast_nonneg _
        by_cases hlt : p < kn
        · have p2 : (p : Int) < (kn : Int) := by omega
          obtain ⟨e, hek⟩ : ∃ e, Kl[p]? = some e := ⟨_, List.getElem?_eq_getElem (by rw [HKN.out]; exact hlt)⟩
          obtain ⟨b, off, rfl, hbb, hr⟩ := HKC.out p e hek
          have HEK := Lib.hid hek
          have HEB := Lib.hid (And.intro hbb hr)
          have g1 : ¬ gs ≤ (e.g : Int) := by have := HG.out.1 e (List.mem_of_getElem? hek); omega
          have c1 : (wo.drewN q0).cell? ⟨b, off + p * 4 + 1, none⟩ = some (.int .u8 e.g) := range_below hr hbb (HBW.out _) 1 _ rfl
          obtain ⟨xt, xg, xk, xv⟩ := e
          simp only at g1 c1
          have xg1 : xg < 256 := (HW.out _ (List.mem_of_getElem? hek)).2.1
          have xg0 : (0 : Int) ≤ (xg : Int) := Int.natCast_nonneg _
          clear hek hbb hr
          go_wp2
          go_loopw [11] (fun i wr => ∃ q : Nat, q ≤ p ∧ i = .int .i64 q ∧ ∃ j, wr = wo.drewN j) (fun i _ => p - (intOf i).toNat)
          case atStart => exact ⟨0, Nat.zero_le _, rfl, q0, rfl⟩
          case round =>
            obtain ⟨q, hq, rfl, q1, rfl⟩ := hrel
            have z1 : (0 : Int) ≤ (q : Int) := Int.natCast_nonneg _
            clear c1
            obtain ⟨wq, hwq⟩ : ∃ wq : World, wo.drewN q1 = wq := ⟨_, rfl⟩
            have HDR : Hid (∀ j, ∃ i, wq.drewN j = wo.drewN i) := Lib.hid fun j => ⟨q1 + j, by rw [← hwq, World.drewN_drewN]⟩
            have HBQ : Hid (∀ j, Below w1.heap.size w1 (wq.drewN j)) := Lib.hid fun j => by rw [← hwq]; exact below_drawn (HBW.out _) j
            have HQ0 : Hid (∃ i, wq = wo.drewN i) := Lib.hid ⟨q1, hwq.symm⟩
            rw [hwq]
            clear hwq
            by_cases hqp : q < p
            · have z2 : (q : Int) < (p : Int) := by omega
              have z3 : (q : Int) < (kn : Int) := by omega
              obtain ⟨a, haq⟩ : ∃ e, Kl[q]? = some e := ⟨_, List.getElem?_eq_getElem (by rw [HKN.out]; omega)⟩
              obtain ⟨b', off', e', hbb', hr'⟩ := HKC.out q a haq
              cases e'
              have hmono := HG.out.2 p q _ a hqp HEK.out haq
              have d0 : ∀ j, (wq.drewN j).cell? ⟨b, off + q * 4, none⟩ = some (.int .u32 a.t) := fun j => range_below hr' hbb' (HBQ.out j) 0 _ rfl
              have d1 : ∀ j, (wq.drewN j).cell? ⟨b, off + q * 4 + 1, none⟩ = some (.int .u8 a.g) := fun j => range_below hr' hbb' (HBQ.out j) 1 _ rfl
              have x0 : ∀ j, (wq.drewN j).cell? ⟨b, off + p * 4, none⟩ = some (.int .u32 xt) := fun j => range_below HEB.out.2 HEB.out.1 (HBQ.out j) 0 _ rfl
              have x1 : ∀ j, (wq.drewN j).cell? ⟨b, off + p * 4 + 1, none⟩ = some (.int .u8 xg) := fun j => range_below HEB.out.2 HEB.out.1 (HBQ.out j) 1 _ rfl
              obtain ⟨zt, zg, zk, zv⟩ := a
              simp only at hmono d0 d1
              clear haq hbb' hr'
              by_cases hg : zg = xg
              · subst hg
                have hm := hmono rfl
                have hm2 : ¬ ((xt : Int) < (zt : Int)) := by omega
                clear hmono hm
                go_wp2
                go_quiet (fail)
                go_wp2
                go_roundw
                case rel => exact ⟨q + 1, by omega, by go_num, HDR.out _⟩
                case measure => simp [intOf]; omega
              · have hg2 : ((zg : Int) == (xg : Int)) = false := by rw [beq_eq_false_iff_ne]; omega
                clear hmono hg
                go_wp2
                go_quiet (fail)
                go_wp2
                go_roundw
                case rel => exact ⟨q + 1, by omega, by go_num, HDR.out _⟩
                case measure => simp [intOf]; omega
            · obtain rfl : q = p := by omega
              clear hqp hq
              go_wp2
              go_roundw
              case rel => exact ⟨q + 1, by omega, by go_num, HQ0.out⟩
              case measure => simp [intOf]; omega
        · obtain rfl : p = kn := by omega
          obtain ⟨w3, hw3⟩ : ∃ w3 : World, wo.drewN q0 = w3 := ⟨_, rfl⟩
          have HB3 : Hid (Below w1.heap.size w1 w3) := Lib.hid (by rw [← hw3]; exact HBW.out _)
          have HO3 : Hid (w3.ownsRow w1.heap.size 5 1 u8 (buildL Kl).length (vals (buildL Kl))) := Lib.hid (by rw [← hw3]; exact own_below HO.out (below_drawn (Below.refl _ _) _))
          rw [hw3]
          clear hlt hp hw3 HBW HO
          have hbl := buildL_len Kl
          rw [HKN.out] at hbl
          have HBL := Lib.hid hbl
          clear hbl
          go_wp2_with fail
          refine (build_any w3 _ Kl (HK.out.below HB3.out) (by rw [HKN.out]; omega)).mono ?_
          rintro e w4 ⟨rfl, b4⟩
          have B4 := Lib.hid b4
          have T4 : Hid (Below w1.heap.size w1 w4) := Lib.hid (HB3.out.trans (b4.mono HB3.out.size))
          have HO4 : Hid (w4.ownsRow w1.heap.size 5 1 u8 (buildL Kl).length (vals (buildL Kl))) := Lib.hid (own_below HO3.out b4)
          clear b4 HO3 HB3
          go_wp2_with fail
          refine (parse_any (str (buildL Kl)) (by rw [str_size, HBL.out]; omega) gs w4).mono ?_
          rintro e w5 ⟨vk5, vd5, rfl, hk5, hd5, b5⟩
          rw [str_data, HPA.out.1] at hk5
          rw [str_data, HPA.out.2] at hd5
          have HK5 := Lib.hid (own_evs hk5 HW.out)
          obtain ⟨a5, c5, rfl, _⟩ := own_drs hd5
          have T5 : Hid (Below w1.heap.size w1 w5) := Lib.hid (T4.out.trans (b5.mono T4.out.size))
          have HO5 : Hid (w5.ownsRow w1.heap.size 5 1 u8 (buildL Kl).length (vals (buildL Kl))) := Lib.hid (own_below HO4.out b5)
          have HCV : Hid (∀ W, Below w5.heap.size w5 W → (convert 53 9 u8).run Try.prog W = .ok (.string (str (buildL Kl))) W) := Lib.hid fun W hW => conv_own (own_below HO5.out hW)
          clear hk5 hd5 b5 T4 HO4 B4
          go_wp2
          refine wp_region_calm (fun w' => Below w5.heap.size w5 w')
            (.e 0 :: .e 0 :: .e 0 :: .e 0 :: .e 0 :: .e 0 :: .e 0 :: .e 0 :: .l 0 :: .e 0 :: .e 0 :: .e 0 :: .e 0 :: .e 0 :: .l 0 :: .e 0 :: .e 0 :: .e 0 :: .e 0 :: .e 0 :: .e 0 :: .e 0 :: .l 0 :: .e 0 :: .e 0 :: []) (by kernel_rfl) (by kernel_rfl) (by kernel_rfl) (by kernel_rfl) ?_
          have hHeld : Below w5.heap.size w5 w5.drew := (Below.refl _ _).drew
          repeat (first
            | (refine mv_take0 (v := ?_) (by rfl) hHeld ?_ ?_; rotate_left 1; (focus (intro w hSw; (try dsimp only at hSw); go_simp; (try with_reducible rfl); done)); (try simp only [Act.put, List.setIfInBounds_toArray, List.set_cons_zero, List.set_cons_succ]))
            | (refine mv_take0 (v := .string (str (buildL Kl))) (by rfl) hHeld (fun w hSw => conv_yields 53 9 _ rfl u8 _ rfl (HCV.out w hSw)) ?_; (try simp only [Act.put, List.setIfInBounds_toArray, List.set_cons_zero, List.set_cons_succ]))
          )
          refine mv_loud0 (by rfl) (fun K2 hK => ?_)
          go_simp
          go_at_call 14
          refine (build_any _ _ Kl (HK.out.below (T5.out.trans (hHeld.mono T5.out.size))) (by rw [HKN.out]; omega)).mono ?_
          rintro e w6 ⟨rfl, b6⟩
          have T6 : Hid (Below w5.heap.size w5 w6) := Lib.hid (hHeld.trans (b6.mono hHeld.size))
          clear hHeld b6
          have hHeld := T6.out
          refine hK.out _ _ hHeld ?_
          clear hK K2
          (try simp only [Act.put, List.setIfInBounds_toArray, List.set_cons_zero, List.set_cons_succ])
          repeat (first
            | (refine mv_take0 (v := ?_) (by rfl) hHeld ?_ ?_; rotate_left 1; (focus (intro w hSw; (try dsimp only at hSw); go_simp; (try with_reducible rfl); done)); (try simp only [Act.put, List.setIfInBounds_toArray, List.set_cons_zero, List.set_cons_succ]))
            | (refine mv_take0 (v := .string (str (buildL Kl))) (by rfl) hHeld (fun w hSw => conv_yields 53 9 _ rfl u8 _ rfl (HCV.out w hSw)) ?_; (try simp only [Act.put, List.setIfInBounds_toArray, List.set_cons_zero, List.set_cons_succ]))
          )
          refine mv_loud0 (by rfl) (fun K2 hK => ?_)
          go_simp
          go_at_call 13
          refine (same_any _ _ _ Kl Kl (HK5.out.below hHeld) (HK.out.below (T5.out.trans (hHeld.mono T5.out.size))) (by rw [HKN.out]; omega)).mono ?_
          rintro e w7 ⟨rfl, b7⟩
          rw [decide_eq_true rfl]
          have T7 : Hid (Below w5.heap.size w5 w7) := Lib.hid (hHeld.trans (b7.mono hHeld.size))
          clear hHeld b7
          have hHeld := T7.out
          refine hK.out _ _ hHeld ?_
          clear hK K2
          (try simp only [Act.put, List.setIfInBounds_toArray, List.set_cons_zero, List.set_cons_succ])
          repeat (first
            | (refine mv_take0 (v := ?_) (by rfl) hHeld ?_ ?_; rotate_left 1; (focus (intro w hSw; (try dsimp only at hSw); go_simp; (try with_reducible rfl); done)); (try simp only [Act.put, List.setIfInBounds_toArray, List.set_cons_zero, List.set_cons_succ]))
            | (refine mv_take0 (v := .string (str (buildL Kl))) (by rfl) hHeld (fun w hSw => conv_yields 53 9 _ rfl u8 _ rfl (HCV.out w hSw)) ?_; (try simp only [Act.put, List.setIfInBounds_toArray, List.set_cons_zero, List.set_cons_succ]))
          )
          refine mv_loud0 (by rfl) (fun K2 hK => ?_)
          go_simp
          go_at_call 10
          refine (awake_any _).mono ?_
          rintro e w8 ⟨rfl, b8⟩
          have T8 : Hid (Below w5.heap.size w5 w8) := Lib.hid (hHeld.trans (b8.mono hHeld.size))
          clear hHeld b8
          have hHeld := T8.out
          refine hK.out _ _ hHeld ?_
          clear hK K2
          (try simp only [Act.put, List.setIfInBounds_toArray, List.set_cons_zero, List.set_cons_succ])
          repeat (first
            | (refine mv_take0 (v := ?_) (by rfl) hHeld ?_ ?_; rotate_left 1; (focus (intro w hSw; (try dsimp only at hSw); go_simp; (try with_reducible rfl); done)); (try simp only [Act.put, List.setIfInBounds_toArray, List.set_cons_zero, List.set_cons_succ]))
            | (refine mv_take0 (v := .string (str (buildL Kl))) (by rfl) hHeld (fun w hSw => conv_yields 53 9 _ rfl u8 _ rfl (HCV.out w hSw)) ?_; (try simp only [Act.put, List.setIfInBounds_toArray, List.set_cons_zero, List.set_cons_succ]))
          )
          refine mv_calm ?_
          go_wp2
          go_ret
          exact ⟨rfl, T1.out.trans ((T5.out.trans (T8.out.mono T5.out.size)).mono T1.out.size)⟩
end Go.Proofs.Ytilfhkagfjdfkaa
