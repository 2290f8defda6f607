/- The document's line. -/
import Derived.Test.YtagcmajiomhbdaaK
import Derived.Test.YtagcmajiomhbdaaHp
set_option linter.unusedVariables false
set_option linter.unusedSimpArgs false
namespace Go.Proofs.Ytagcmajiomhbdaa
open Go.RowKit
def rc (s : US) : Array Value := #[.int .i64 s.ier, .int .i64 s.lcr, .int .i64 s.mcr, .int .i64 s.scr, .int .i64 s.d0, .int .i64 s.d1, .bool s.en, .bool s.ov, .bool s.dn, .string (str s.q), .string (str s.out)]
/-- The document's line in memory. -/
def Rf (w : World) (C : Nat) (s : US) : Prop := Box w C 28 (rc s)
def Rz (C : Nat) (s' : US) (w w' : World) : Prop := Rf w' C s' ∧ Touch (fun b => b = C) w w'
theorem bytes_ne {x y : ByteArray} (h : ¬ x = y) : (x.toList == y.toList) = false := beq_eq_false_iff_ne.2 fun e => h (by
  rw [ByteArray.toList_eq, ByteArray.toList_eq] at e
  exact ByteArray.ext (Array.toList_inj.mp e))
theorem str_nil : (str []).toList.isEmpty = true := by rw [ByteArray.toList_eq]; rfl
theorem str_cons (c : UInt8) (r : List UInt8) : (str (c :: r)).toList.isEmpty = false := by rw [ByteArray.toList_eq]; rfl
theorem str_ne (c : UInt8) (r : List UInt8) : ¬ str (c :: r) = ⟨#[]⟩ := fun e => by
  have := congrArg ByteArray.size e
  simp [str, ByteArray.size] at this
section
variable {w w' : World} {C : Nat} {s s' : US}
theorem Rf.put (h : Rf w C s) (i : Nat) (u : Value) (s' : US) (e : (rc s).setIfInBounds i u = rc s') : Rf (w.setCell ⟨C, i, none⟩ u) C s' := box_eq (Box.put h i u) e
theorem Rz.same (h : Rf w C s) : Rz C s w w := ⟨h, Touch.refl _ _⟩
theorem Rz.of (h : Rf w C s) (i : Nat) (u : Value) (s' : US) (e : (rc s).setIfInBounds i u = rc s') : Rz C s' w (w.setCell ⟨C, i, none⟩ u) := ⟨h.put i u s' e, (Touch.refl (fun b => b = C) w).put (p := ⟨C, i, none⟩) (.inl rfl) u⟩
theorem Rz.put {s2 : US} (h : Rz C s' w w') (i : Nat) (u : Value) (e : (rc s').setIfInBounds i u = rc s2) : Rz C s2 w (w'.setCell ⟨C, i, none⟩ u) := ⟨h.1.put i u s2 e, h.2.put (p := ⟨C, i, none⟩) (.inl rfl) u⟩
set_option maxHeartbeats 4000000 in
theorem rasks_any (h : Rf w C s) (hi : s.ier < 16) : Calls Try.prog 28 #[.pointer (some ⟨C, 0, none⟩)] w fun e w' => e = .returned (.int .i64 s.asks) ∧ w = w' := by
  have c0 : w.cell? ⟨C, 0, none⟩ = some (.int .i64 s.ier) := Box.read h 0
  have c7 : w.cell? ⟨C, 7, none⟩ = some (.bool s.ov) := Box.read h 7
  have c8 : w.cell? ⟨C, 8, none⟩ = some (.bool s.dn) := Box.read h 8
  have c9 : w.cell? ⟨C, 9, none⟩ = some (.string (str s.q)) := Box.read h 9
  clear h
  rcases s with ⟨ier, lcr, mcr, scr, d0, d1, q, out, en, ov, dn⟩
  simp only at c0 c7 c8 c9 hi ⊢
  have h4 : ((ier : Int) / 4 % 2 = 0 ∧ ier / 4 % 2 = 0) ∨ ((ier : Int) / 4 % 2 = 1 ∧ ier / 4 % 2 = 1) := by omega
  have h2 : ((ier : Int) / 2 % 2 = 0 ∧ ier / 2 % 2 = 0) ∨ ((ier : Int) / 2 % 2 = 1 ∧ ier / 2 % 2 = 1) := by omega
  have h1 : ((ier : Int) % 2 = 0 ∧ ier % 2 = 0) ∨ ((ier : Int) % 2 = 1 ∧ ier % 2 = 1) := by omega
  rcases h1 with ⟨e1, h1⟩ | ⟨e1, h1⟩ <;> rcases h2 with ⟨e2, h2⟩ | ⟨e2, h2⟩ <;> rcases h4 with ⟨e4, h4⟩ | ⟨e4, h4⟩ <;> cases ov <;> cases dn <;> rcases q with _ | ⟨c, q⟩
  all_goals
    have HX := Lib.hid (And.intro h1 (And.intro h2 h4))
    clear h1 h2 h4
    first | (have hne := str_cons c q) | (have hne := str_nil)
    go_enter Try.func28, Try.ntmps28
    go_wp2
    go_ret
    exact ⟨ret_eq (by obtain ⟨h1, h2, h4⟩ := HX.out; simp [US.asks, h1, h2, h4]), rfl⟩
theorem rlevel_any (h : Rf w C s) (hi : s.ier < 16) : Calls Try.prog 12 #[.pointer (some ⟨C, 0, none⟩)] w fun e w' => e = .returned (.bool (decide (s.asks ≠ 1))) ∧ w = w' := by
  have ha := rasks_any h hi
  have hc := asks_cases s
  generalize s.asks = n at ha hc
  have HA := Lib.hid ha
  clear ha h
  rcases hc with rfl | rfl | rfl | rfl
  all_goals
    go_enter Try.func12, Try.ntmps12
    go_wp2_with (go_at_call 28; refine HA.out.mono ?_; rintro e w' ⟨rfl, rfl⟩)
    go_ret
    exact ⟨rfl, rfl⟩
theorem rone_any (b : Bool) (w : World) : Calls Try.prog 30 #[.bool b] w fun e w' => e = .returned (.int .u8 (oneN b)) ∧ w' = w := by
  cases b
  all_goals
    go_enter Try.func30, Try.ntmps30
    go_wp2
    go_ret
    exact ⟨rfl, rfl⟩
theorem rtake_any (h : Rf w C s) : Calls Try.prog 17 #[.pointer (some ⟨C, 0, none⟩)] w fun e w' => e = .returned (.string (str s.out)) ∧ Rz C { s with out := [] } w w' := by
  have c10 : w.cell? ⟨C, 10, none⟩ = some (.string (str s.out)) := Box.read h 10
  have f10 := Box.warm h 10
  have HZ := Lib.hid (Rz.of h 10 (.string ⟨#[]⟩) { s with out := [] } (by kernel_rfl))
  clear h
  go_enter Try.func17, Try.ntmps17
  go_wp2
  go_ret
  exact ⟨rfl, HZ.out⟩
theorem rfirst_none (h : Rf w C s) (hq : s.q = []) : Calls Try.prog 36 #[.pointer (some ⟨C, 0, none⟩)] w fun e w' => e = .returned (.int .i64 0) ∧ w = w' := by
  have c9 : w.cell? ⟨C, 9, none⟩ = some (.string (str s.q)) := Box.read h 9
  rw [hq] at c9
  clear h
  have hne := str_nil
  go_enter Try.func36, Try.ntmps36
  go_wp2
  go_ret
  exact ⟨rfl, rfl⟩
theorem str_tail (c : UInt8) (r : List UInt8) : (str (c :: r)).extract 1 (r.length + 1) = str r := by
  apply ByteArray.ext
  simp [str, ByteArray.data_extract]
theorem rfirst_one (h : Rf w C s) (c : UInt8) (r : List UInt8) (hq : s.q = c :: r) : Calls Try.prog 36 #[.pointer (some ⟨C, 0, none⟩)] w fun e w' => e = .returned (.int .i64 c.toNat) ∧ Rz C { s with q := r } w w' := by
  have c9 : w.cell? ⟨C, 9, none⟩ = some (.string (str s.q)) := Box.read h 9
  have f9 := Box.warm h 9
  have HZ := Lib.hid (Rz.of h 9 (.string (str r)) { s with q := r } (by kernel_rfl))
  rw [hq] at c9
  clear h
  have hne := str_cons c r
  have hsz : ((str (c :: r)).size : Int) = (r.length : Int) + 1 := by rw [str_size]; simp
  have h0 : (0 : Nat) < (str (c :: r)).size := by rw [str_size]; simp
  have hg : (str (c :: r))[0] = c := rfl
  have h1 : (1 : Int) ≤ (r.length : Int) + 1 := by omega
  have hc := UInt8.toNat_lt c
  have r1 : ∀ wx : World, (Instr.slice 9 (.string (str (c :: r))) (some (.int .i64 1)) none none).run Try.prog wx = .ok (.string (str r)) wx := fun wx => by
    rw [run_slice_string_from_if (h := Try.underlying9), if_pos ⟨by decide, by rw [hsz]; omega⟩, str_size]
    congr 2
    exact str_tail c r
  go_enter Try.func36, Try.ntmps36
  go_wp2
  go_ret
  exact ⟨rfl, HZ.out⟩
def firstN (q : List UInt8) : Nat := match q with
  | [] => 0
  | c :: _ => c.toNat
theorem firstN_lt (q : List UInt8) : firstN q < 256 := by
  rcases q with _ | ⟨c, r⟩
  · decide
  · exact UInt8.toNat_lt c
theorem rfirst_any (h : Rf w C s) : Calls Try.prog 36 #[.pointer (some ⟨C, 0, none⟩)] w fun e w' => e = .returned (.int .i64 (firstN s.q)) ∧ Rz C { s with q := s.q.tail } w w' := by
  rcases hq : s.q with _ | ⟨c, r⟩
  · refine (rfirst_none h hq).mono ?_
    rintro e w' ⟨rfl, rfl⟩
    have e1 : ({ s with q := ([] : List UInt8).tail } : US) = s := by rcases s with ⟨⟩; simp_all
    rw [e1]
    exact ⟨rfl, Rz.same h⟩
  · exact rfirst_one h c r hq
theorem rread_bad (h : Rf w C s) (off : Nat) (v : Int) (hb : ¬ (off < 8 ∧ v = 1)) : Calls Try.prog 24 #[.pointer (some ⟨C, 0, none⟩), .int .u64 off, .int .i64 v] w fun e w' => e = .returned (.tuple #[.int .u64 (s.Rv off v), .bool (okR off v)]) ∧ Rz C (s.Rd off v) w w' := by
  rw [US.Rv, if_neg hb, okR, decide_eq_false hb, US.Rd, if_neg hb]
  have HU := Lib.hid (Rz.same h)
  clear h
  by_cases h8 : off < 8
  · have hv : ¬ v = 1 := by omega
    have hvb : (v == 1) = false := beq_eq_false_iff_ne.2 hv
    have hvc : (v != 1) = true := bne_iff_ne.2 hv
    clear hb
    go_enter Try.func24, Try.ntmps24
    go_wp2
    go_ret2
    exact ⟨rfl, HU.out⟩
  · clear hb
    go_enter Try.func24, Try.ntmps24
    go_wp2
    go_ret2
    exact ⟨rfl, HU.out⟩
set_option maxHeartbeats 4000000 in
set_option maxRecDepth 100000 in
theorem rread_good (h : Rf w C s) (ok : s.ok) (off : Nat) (h8 : off < 8) : Calls Try.prog 24 #[.pointer (some ⟨C, 0, none⟩), .int .u64 off, .int .i64 1] w fun e w' => e = .returned (.tuple #[.int .u64 (s.rv off), .bool true]) ∧ Rz C (s.rd off) w w' := by
  have c0 : w.cell? ⟨C, 0, none⟩ = some (.int .i64 s.ier) := Box.read h 0
  have c1 : w.cell? ⟨C, 1, none⟩ = some (.int .i64 s.lcr) := Box.read h 1
  have c2 : w.cell? ⟨C, 2, none⟩ = some (.int .i64 s.mcr) := Box.read h 2
  have c3 : w.cell? ⟨C, 3, none⟩ = some (.int .i64 s.scr) := Box.read h 3
  have c4 : w.cell? ⟨C, 4, none⟩ = some (.int .i64 s.d0) := Box.read h 4
  have c5 : w.cell? ⟨C, 5, none⟩ = some (.int .i64 s.d1) := Box.read h 5
  have c6 : w.cell? ⟨C, 6, none⟩ = some (.bool s.en) := Box.read h 6
  have c7 : w.cell? ⟨C, 7, none⟩ = some (.bool s.ov) := Box.read h 7
  have c8 : w.cell? ⟨C, 8, none⟩ = some (.bool s.dn) := Box.read h 8
  have c9 : w.cell? ⟨C, 9, none⟩ = some (.string (str s.q)) := Box.read h 9
  have f7 := Box.warm h 7
  have f8 := Box.warm h 8
  have b0 := ok.ier
  have b1 := ok.lcr
  have b2 := ok.mcr
  have b3 := ok.scr
  have b4 := ok.d0
  have b5 := ok.d1
  have HF := Lib.hid (rfirst_any h)
  have HA := Lib.hid (rasks_any h ok.ier)
  have HS := Lib.hid (Rz.same h)
  have HD := Lib.hid (Rz.of h 8 (.bool false) { s with dn := false } (by kernel_rfl))
  have HO := Lib.hid (Rz.of h 7 (.bool false) { s with ov := false } (by kernel_rfl))
  have hf := firstN_lt s.q
  have hc := asks_cases s
  clear h ok
  have e0 : s.rv 0 = if 128 ≤ s.lcr then s.d0 else firstN s.q := rfl
  have e0' : s.rd 0 = if 128 ≤ s.lcr then s else { s with q := s.q.tail } := rfl
  have e1 : s.rv 1 = if 128 ≤ s.lcr then s.d1 else s.ier := rfl
  have e2 : s.rv 2 = s.asks + if s.en then 192 else 0 := rfl
  have e2' : s.rd 2 = if s.asks = 2 then { s with dn := false } else s := by
    show { s with dn := if s.asks = 2 then false else s.dn } = _
    split <;> rfl
  have e5 : s.rv 5 = 96 + (if s.q = [] then 0 else 1) + if s.ov then 2 else 0 := rfl
  have HE := Lib.hid (And.intro e0 (And.intro e0' (And.intro e1 (And.intro e2 (And.intro e2' e5)))))
  clear e0 e0' e1 e2 e2' e5
  generalize firstN s.q = fq at hf HF HE
  obtain rfl | rfl | rfl | rfl | rfl | rfl | rfl | rfl := cases8 h8
  · by_cases hl : 128 ≤ s.lcr
    · have HX := Lib.hid (And.intro (HE.out.1.trans (if_pos hl)) (HE.out.2.1.trans (if_pos hl)))
      go_enter Try.func24, Try.ntmps24
      go_wp2
      go_ret2
      rw [HX.out.1, HX.out.2]
      exact ⟨rfl, HS.out⟩
    · have HX := Lib.hid (And.intro (HE.out.1.trans (if_neg hl)) (HE.out.2.1.trans (if_neg hl)))
      go_enter Try.func24, Try.ntmps24
      go_wp2_with (go_at_call 36; refine HF.out.mono ?_; rintro e w' ⟨rfl, hz⟩)
      go_ret2
      rw [HX.out.1, HX.out.2]
      exact ⟨rfl, hz⟩
  · by_cases hl : 128 ≤ s.lcr
    · have HX := Lib.hid (HE.out.2.2.1.trans (if_pos hl))
      go_enter Try.func24, Try.ntmps24
      go_wp2
      go_ret2
      rw [HX.out]
      exact ⟨rfl, HS.out⟩
    · have HX := Lib.hid (HE.out.2.2.1.trans (if_neg hl))
      go_enter Try.func24, Try.ntmps24
      go_wp2
      go_ret2
      rw [HX.out]
      exact ⟨rfl, HS.out⟩
  · obtain ⟨_, _, _, x2, x2', _⟩ := HE.out
    generalize s.asks = n at HA hc x2 x2'
    generalize s.en = en at c6 x2
    have HX := Lib.hid (And.intro x2 x2')
    clear x2 x2'
    cases en <;> rcases hc with rfl | rfl | rfl | rfl
    all_goals
      go_enter Try.func24, Try.ntmps24
      go_wp2_with (go_at_call 28; refine HA.out.mono ?_; rintro e w' ⟨rfl, rfl⟩)
      go_ret2
      rw [HX.out.1, HX.out.2]
      first | exact ⟨rfl, HS.out⟩ | exact ⟨rfl, HD.out⟩
  · go_enter Try.func24, Try.ntmps24
    go_wp2
    go_ret2
    exact ⟨rfl, HS.out⟩
  · go_enter Try.func24, Try.ntmps24
    go_wp2
    go_ret2
    exact ⟨rfl, HS.out⟩
  · obtain ⟨_, _, _, _, _, x5⟩ := HE.out
    generalize hq : s.q = ql at c9 x5
    generalize s.ov = ov at c7 x5
    have HX := Lib.hid x5
    clear x5 hq HE HF
    cases ov <;> rcases ql with _ | ⟨c, r⟩
    all_goals
      first | (have hne := str_cons c r) | (have hne := str_nil)
      go_enter Try.func24, Try.ntmps24
      go_wp2
      go_ret2
      rw [HX.out]
      exact ⟨rfl, HO.out⟩
  · go_enter Try.func24, Try.ntmps24
    go_wp2
    go_ret2
    exact ⟨rfl, HS.out⟩
  · go_enter Try.func24, Try.ntmps24
    go_wp2
    go_ret2
    exact ⟨rfl, HS.out⟩
theorem rread_any (h : Rf w C s) (ok : s.ok) (off : Nat) (v : Int) : Calls Try.prog 24 #[.pointer (some ⟨C, 0, none⟩), .int .u64 off, .int .i64 v] w fun e w' => e = .returned (.tuple #[.int .u64 (s.Rv off v), .bool (okR off v)]) ∧ Rz C (s.Rd off v) w w' := by
  by_cases hg : off < 8 ∧ v = 1
  · rw [US.Rv, if_pos hg, okR, decide_eq_true hg, US.Rd, if_pos hg]
    obtain ⟨h8, rfl⟩ := hg
    exact rread_good h ok off h8
  · exact rread_bad h off v hg
end
end Go.Proofs.Ytagcmajiomhbdaa
