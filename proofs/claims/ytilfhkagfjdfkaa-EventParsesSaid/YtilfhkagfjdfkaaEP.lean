/- EventParses' body. -/
import Derived.Test.YtilfhkagfjdfkaaEO
set_option linter.unusedVariables false
set_option linter.unusedSimpArgs false
namespace Go.Proofs.Ytilfhkagfjdfkaa
open Go.RowKit
attribute [local go_sem] Oper.semAt_some
theorem own_rangeR {w : World} {base g cap : Nat} {l : List Dr} (h : w.ownsRow base 32 2 (.slice (some ⟨g, 0, none⟩) l.length cap) l.length (drs l)) (k : Nat) (e : Dr) (hk : l[k]? = some e) : w.rangeAt g (k * 2) (drL e) := fun j u hj => by
  have hkl := (List.getElem?_eq_some_iff.1 hk).1
  have hj4 : j < 2 := (List.getElem?_eq_some_iff.1 hj).1
  rw [World.ownsRow.cellAt h (k * 2 + j) (by omega), drs_at l k e hk j hj4]
  exact hj
theorem own_drr {w : World} {base : Nat} {v : Value} {l : List Dr} (h : w.ownsRow base 32 2 v l.length (drs l)) : IsDrs w v l := by
  have h2 := h.2
  rcases h2 with ⟨rfl, h0⟩ | ⟨g, cap, cur, rfl, hg, hh, hn, hcap, hsz, htake⟩
  · have : l = [] := List.eq_nil_of_length_eq_zero h0
    subst this
    exact ⟨none, 0, rfl, fun k e hk => by simp at hk⟩
  · refine ⟨some ⟨g, 0, none⟩, cap, rfl, fun k e hk => ⟨g, 0, rfl, (Array.getElem?_eq_some_iff.1 hh).1, ?_⟩⟩
    rw [Nat.zero_add]
    exact own_rangeR h k e hk
theorem fields32 : (Try.prog.fieldsOf 32).toList.map (fun f => (f.name, f.type, f.offset)) = [("N", 3, 0), ("Why", 5, 1)] := by kernel_rfl
theorem eqFields32 (d : Nat) (xs ys : Array Value) : Op.eqFields d xs ys (Try.prog.fieldsOf 32).toList = Op.eqFields d xs ys [fld "N" 3 0, fld "Why" 5 1] :=
  eqFields_map d xs ys _ _ (by rw [fields32]; rfl)
theorem neq_dr2 (a : Dr) (w : World) : (binOp .neq 32 (.agg (drL a).toArray) (.agg (drL a).toArray)).run Try.prog w = .ok (.bool false) w := by
  show (binOp .neq 32 (.agg #[.int .i64 a.n, .int .u8 a.why]) (.agg #[.int .i64 a.n, .int .u8 a.why])).run Try.prog w = _
  rw [run_neq_struct, run_equalIn_agg (ht := by kernel_rfl) (hp := by kernel_rfl), eqFields32]
  simp only [Op.eqFields, fld]
  simp [part, go_sem]
set_option maxRecDepth 100000 in
theorem parses_long (s : ByteArray) (h : 1000 < s.size) (gs : Int) (w : World) : Calls Try.prog 3 #[.string s, .int .i64 gs] w (Yes w) := by
  have h' : (1000 : Int) < (s.size : Int) := by omega
  go_enter Try.func3, Try.ntmps3
  go_wp2_with (go_at_call 10; refine (awake_any _).mono ?_; rintro e w' ⟨rfl, bel⟩)
  go_ret
  exact ⟨rfl, bel⟩
set_option maxHeartbeats 8000000 in
set_option maxRecDepth 100000 in
theorem parses_all (s : ByteArray) (h0 : s.size ≤ 1000) (gs : Int) (w : World) : Calls Try.prog 3 #[.string s, .int .i64 gs] w (Yes w) := by
  have h0' : ¬ (1000 : Int) < (s.size : Int) := by omega
  have hll : s.data.toList.length = s.size := Array.length_toList
  have HW := Lib.hid (parK_wf gs s.data.toList)
  have hkl := parK_len gs s.data.toList
  have hdl := parD_len gs s.data.toList
  go_enter Try.func3, Try.ntmps3
  go_wp2_with fail
  refine (parse_any s (by omega) gs _).mono ?_
  rintro e w1 ⟨vk, vd, rfl, hk, hd, b1⟩
  have HK := Lib.hid (own_evs hk HW.out)
  have HD := Lib.hid (own_drs hd)
  have T1 := Lib.hid b1
  clear hk hd b1
  go_wp2_with fail
  refine (docparse_any s (by omega) gs _).mono ?_
  rintro e w2 ⟨vk2, vd2, rfl, hk2, hd2, b2⟩
  have HK2 := Lib.hid (own_evs hk2 HW.out)
  have HD2 := Lib.hid (own_drr hd2)
  have T2 : Hid (Below w.heap.size w w2) := Lib.hid (T1.out.trans (b2.mono T1.out.size))
  have HK1 := Lib.hid (HK.out.below b2)
  have HD1 := Lib.hid (HD.out.below b2)
  clear hk2 hd2 b2 T1 HK HD
  generalize parK gs s.data.toList = Kl at HW HK1 HK2 hkl
  generalize parD gs s.data.toList = Dl at HD1 HD2 hdl
  obtain ⟨ak, ck, rfl, _⟩ := id HK1.out
  obtain ⟨ak2, ck2, rfl, _⟩ := id HK2.out
  obtain ⟨ad, cd, rfl, hdc⟩ := id HD1.out
  obtain ⟨ad2, cd2, rfl, hdc2⟩ := id HD2.out
  have HDC := Lib.hid hdc
  have HDC2 := Lib.hid hdc2
  clear hdc hdc2
  obtain ⟨dn, hdn⟩ : ∃ n, Dl.length = n := ⟨_, rfl⟩
  have HDN := Lib.hid hdn
  rw [hdn] at HD1 HD2 hdl ⊢
  clear hdn
  have hd61 : dn ≤ 101 := by omega
  have hne : ((dn : Int) != (dn : Int)) = false := bne_self_eq_false _
  have HKZ : Hid (Kl.length ≤ 1000) := Lib.hid (by omega)
  clear hkl hdl hll
  go_wp2_with fail
  refine (same_any w2 _ _ Kl Kl HK1.out HK2.out (by have := HKZ.out; omega)).mono ?_
  rintro e w3 ⟨rfl, b3⟩
  rw [decide_eq_true rfl]
  have B3 := Lib.hid b3
  have T3 : Hid (Below w.heap.size w w3) := Lib.hid (T2.out.trans (b3.mono T2.out.size))
  clear b3
  go_wp2
  go_loopw [9] (fun i wr => ∃ j : Nat, j ≤ dn ∧ i = .int .i64 j ∧ ∃ q, wr = w3.drewN q) (fun i _ => dn - (intOf i).toNat)
  case atStart => exact ⟨0, Nat.zero_le _, rfl, 0, (World.drewN_zero _).symm⟩
  case round =>
    obtain ⟨j, hj, rfl, q0, rfl⟩ := hrel
    have j1 : (0 : Int) ≤ (j : Int) := Int.natCast_nonneg _
    by_cases hlt : j < dn
    · have j2 : (j : Int) < (dn : Int) := by omega
      obtain ⟨d, hdk⟩ : ∃ e, Dl[j]? = some e := ⟨_, List.getElem?_eq_getElem (by rw [HDN.out]; exact hlt)⟩
      obtain ⟨b, off, rfl, hbb, hr⟩ := HDC.out j d hdk
      obtain ⟨b', off', rfl, hbb', hr'⟩ := HDC2.out j d hdk
      have R1 : Hid (∀ q, ((w3.drewN q0).drewN q).rangeAt b (off + j * 2) (drL d)) := Lib.hid fun q => range_below hr hbb (below_drawn (below_drawn B3.out _) _)
      have R2 : Hid (∀ q, ((w3.drewN q0).drewN q).rangeAt b' (off' + j * 2) (drL d)) := Lib.hid fun q => range_below hr' hbb' (below_drawn (below_drawn B3.out _) _)
      have rn : ∀ w, (binOp .neq 32 (.agg (drL d).toArray) (.agg (drL d).toArray)).run Try.prog w = .ok (.bool false) w := fun w => neq_dr2 d w
      clear hdk hr hbb hr' hbb'
      go_wp2
      refine wp_region_quiet_lit (by kernel_rfl) (by kernel_rfl) ?_
      repeat (first
        | (refine wpQuiet_mid (by rfl) 33 _ rfl b (off + j * 2) rfl (drL d) _ (fun w' hw' => by obtain ⟨q, rfl⟩ := hw'; exact R1.out q) Try.underlying33 rfl rfl ?_; simp only [Act.put, List.setIfInBounds_toArray, List.set_cons_zero, List.set_cons_succ])
        | (refine wpQuiet_mid (by rfl) 32 _ rfl b' (off' + j * 2) rfl (drL d) _ (fun w' hw' => by obtain ⟨q, rfl⟩ := hw'; exact R2.out q) Try.underlying32 rfl rfl ?_; simp only [Act.put, List.setIfInBounds_toArray, List.set_cons_zero, List.set_cons_succ])
        | go_big_quiet_step (fail))
      refine wpQuiet_nil ?_
      intro w9 hw9
      obtain ⟨nq, hw9⟩ := hw9
      subst hw9
      go_wp2
      go_roundw
      case rel => exact ⟨j + 1, by omega, by go_num, q0 + nq, rfl⟩
      case measure => simp [intOf]; omega
    · obtain rfl : j = dn := by omega
      have T4 : Hid (Below w.heap.size w (w3.drewN q0)) := Lib.hid (below_drawn T3.out q0)
      clear hlt hj
      go_wp2_with (go_at_call 10; refine (awake_any _).mono ?_; rintro e w8 ⟨rfl, bel⟩)
      go_ret
      exact ⟨rfl, T4.out.trans (bel.mono T4.out.size)⟩
end Go.Proofs.Ytilfhkagfjdfkaa
