/- The document's Read. -/
import Derived.Test.YtlgefljbhbefgaaDoorDc
set_option linter.unusedVariables false
set_option linter.unusedSimpArgs false
namespace Go.Proofs.YtlgefljbhbefgaaDoor
open Go.RowKit
attribute [local go_sem] Oper.semAt_some
/-- A row of eight truths within the document's PLIC. -/
theorem drow {w : World} {D : Nat} {d : DS} (h : Box w D 32 (dpl d)) (o : Nat) (F : Nat → Bool) (hat : ∀ i, i < 8 → (dpl d)[o + i]? = some (.bool (F i))) : w.rangeAt D o (bs F).toList := fun j v hj => by
  rw [h.read]
  rcases j with _ | _ | _ | _ | _ | _ | _ | _ | j
  · cases hj; exact hat 0 (by decide)
  · cases hj; exact hat 1 (by decide)
  · cases hj; exact hat 2 (by decide)
  · cases hj; exact hat 3 (by decide)
  · cases hj; exact hat 4 (by decide)
  · cases hj; exact hat 5 (by decide)
  · cases hj; exact hat 6 (by decide)
  · cases hj; exact hat 7 (by decide)
  · cases hj
theorem bits_on : ∀ n : Nat, n < 256 → bitsN (fun k => decide (n / 2 ^ k % 2 = 1)) 8 = n := by decide +kernel
theorem bits_en {s : PS} (ok : s.ok) (c : Nat) : bitsN (s.on c) 8 = s.en c := bits_on _ (ok.en c)
section
variable {w : World} {D : Nat} {s : PS}
theorem dread_no (off : Nat) (width : Int) (hr : isReg off width = false) : Calls Tryd.prog 26 #[.pointer (some ⟨D, 0, none⟩), .int .u64 off, .int .i64 width] w fun e w' => e = .returned (.tuple #[.int .u64 0, .bool false]) ∧ w = w' := by
  have HR := Lib.hid (dmay_any off width w)
  rw [hr] at HR
  clear hr
  go_enter Tryd.func26, Tryd.ntmps26
  go_wp2_with (go_at_call 38; refine HR.out.mono ?_; rintro e w' ⟨rfl, rfl⟩)
  go_ret2
  exact ⟨rfl, rfl⟩
theorem dread_pri (h : Box w D 32 (dpl s.doc)) (ok : s.ok) (n off : Nat) (hq : off / 4 = n) (h1 : 1 ≤ n) (h8 : n < 8) (hr : isReg off 4 = true) : Calls Tryd.prog 26 #[.pointer (some ⟨D, 0, none⟩), .int .u64 off, .int .i64 4] w fun e w' => e = .returned (.tuple #[.int .u64 (s.pr n), .bool true]) ∧ w = w' := by
  have HR := Lib.hid (dmay_any off 4 w)
  rw [hr] at HR
  have c1 : w.cell? ⟨D, n, none⟩ = some (.int .i64 (s.pr n)) := (h.read _).trans (dpr_at s.doc n h8)
  have hp8 := ok.pr n
  have hw : IntKind.u64.wrap (s.pr n : Int) = (s.pr n : Int) := by rw [IntKind.wrap_u64]; omega
  have hd1 : (off : Int) / 4 = ((n : Nat) : Int) := by omega
  have hd2 : (off : Int).tdiv 4 = ((n : Nat) : Int) := by rw [← hd1]; rfl
  have e1 : (4 : Int) ≤ (off : Int) := by omega
  have e2 : (off : Int) < 32 := by omega
  have n0 : (0 : Int) ≤ (n : Int) := Int.natCast_nonneg _
  have n8 : (n : Int) < 8 := by omega
  have hwn : IntKind.u64.wrap (n : Int) = (n : Int) := by rw [IntKind.wrap_u64]; omega
  clear h hr hq hp8 h1
  go_enter Tryd.func26, Tryd.ntmps26
  go_wp2_with (go_at_call 38; refine HR.out.mono ?_; rintro e w' ⟨rfl, rfl⟩)
  go_ret2
  exact ⟨rfl, rfl⟩
set_option maxHeartbeats 2000000 in
theorem dread_pnd (h : Box w D 32 (dpl s.doc)) (ok : s.ok) : Calls Tryd.prog 26 #[.pointer (some ⟨D, 0, none⟩), .int .u64 4096, .int .i64 4] w fun e w' => e = .returned (.tuple #[.int .u64 (bitsN s.pe 8), .bool true]) ∧ Box w' D 32 (dpl s.doc) ∧ Only D w w' := by
  have HR : Hid (Calls Tryd.prog 38 #[.int .u64 4096, .int .i64 4] w fun e w' => e = .returned (.bool true) ∧ w = w') := Lib.hid (dmay_any 4096 4 w)
  have HB := Lib.hid h
  have HOK := Lib.hid ok
  have HRW := Lib.hid (drow h 16 s.pe (fun i hi => dpe_at s.doc i hi))
  clear h ok
  go_enter Tryd.func26, Tryd.ntmps26
  go_wp2_with (go_at_call 38; refine HR.out.mono ?_; rintro e w' ⟨rfl, rfl⟩)
  go_loop [8] (fun x => x = .int .i64 0) (fun _ => 0)
  case atStart => exact rfl
  case round =>
    subst hrel
    go_wp2_with (first
      | (refine wpList_load_mid rfl 28 _ rfl D 16 rfl (bs (s.pe)).toList _ HRW.out Tryd.underlying28 rfl rfl ?_)
      | (go_at_call 34; refine (dbits_any (s.pe) _).mono ?_; rintro e w2 ⟨rfl, hb⟩; have T2 := Lib.hid hb; clear hb))
    go_ret2
    exact ⟨rfl, HB.out.over T2.out HB.out.inHeap, Only.ofBelow T2.out⟩
set_option maxHeartbeats 2000000 in
theorem dread_en0 (h : Box w D 32 (dpl s.doc)) (ok : s.ok) : Calls Tryd.prog 26 #[.pointer (some ⟨D, 0, none⟩), .int .u64 8192, .int .i64 4] w fun e w' => e = .returned (.tuple #[.int .u64 (s.en 0), .bool true]) ∧ Box w' D 32 (dpl s.doc) ∧ Only D w w' := by
  have HR : Hid (Calls Tryd.prog 38 #[.int .u64 8192, .int .i64 4] w fun e w' => e = .returned (.bool true) ∧ w = w') := Lib.hid (dmay_any 8192 4 w)
  have HB := Lib.hid h
  have HOK := Lib.hid ok
  have HRW := Lib.hid (drow h 32 (s.on 0) (fun i hi => den_at s.doc 0 (by decide) i hi))
  have HEN := Lib.hid (bits_en ok 0)
  clear h ok
  go_enter Tryd.func26, Tryd.ntmps26
  go_wp2_with (go_at_call 38; refine HR.out.mono ?_; rintro e w' ⟨rfl, rfl⟩)
  go_loop [8] (fun x => x = .int .i64 0) (fun _ => 0)
  case atStart => exact rfl
  case round =>
    subst hrel
    go_wp2_with (first
      | (refine wpList_load_mid rfl 28 _ rfl D 32 rfl (bs (s.on 0)).toList _ HRW.out Tryd.underlying28 rfl rfl ?_)
      | (go_at_call 34; refine (dbits_any (s.on 0) _).mono ?_; rintro e w2 ⟨rfl, hb⟩; have T2 := Lib.hid hb; clear hb))
    go_ret2
    exact ⟨by rw [HEN.out]; rfl, HB.out.over T2.out HB.out.inHeap, Only.ofBelow T2.out⟩
set_option maxHeartbeats 2000000 in
theorem dread_en1 (h : Box w D 32 (dpl s.doc)) (ok : s.ok) : Calls Tryd.prog 26 #[.pointer (some ⟨D, 0, none⟩), .int .u64 8320, .int .i64 4] w fun e w' => e = .returned (.tuple #[.int .u64 (s.en 1), .bool true]) ∧ Box w' D 32 (dpl s.doc) ∧ Only D w w' := by
  have HR : Hid (Calls Tryd.prog 38 #[.int .u64 8320, .int .i64 4] w fun e w' => e = .returned (.bool true) ∧ w = w') := Lib.hid (dmay_any 8320 4 w)
  have HB := Lib.hid h
  have HOK := Lib.hid ok
  have HRW := Lib.hid (drow h 40 (s.on 1) (fun i hi => den_at s.doc 1 (by decide) i hi))
  have HEN := Lib.hid (bits_en ok 1)
  clear h ok
  go_enter Tryd.func26, Tryd.ntmps26
  go_wp2_with (go_at_call 38; refine HR.out.mono ?_; rintro e w' ⟨rfl, rfl⟩)
  go_loop [8] (fun x => x = .int .i64 0 ∨ x = .int .i64 1) (fun x => 1 - (intOf x).toNat)
  case atStart => exact .inl rfl
  case round =>
    rcases hrel with rfl | rfl
    · go_wp2
      go_round
      case rel => exact .inr (by go_num)
      case measure => simp [intOf]
    · go_wp2_with (first
        | (refine wpList_load_mid rfl 28 _ rfl D 40 rfl (bs (s.on 1)).toList _ HRW.out Tryd.underlying28 rfl rfl ?_)
        | (go_at_call 34; refine (dbits_any (s.on 1) _).mono ?_; rintro e w2 ⟨rfl, hb⟩; have T2 := Lib.hid hb; clear hb))
      go_ret2
      exact ⟨by rw [HEN.out]; rfl, HB.out.over T2.out HB.out.inHeap, Only.ofBelow T2.out⟩
set_option maxHeartbeats 2000000 in
theorem dread_th0 (h : Box w D 32 (dpl s.doc)) (ok : s.ok) : Calls Tryd.prog 26 #[.pointer (some ⟨D, 0, none⟩), .int .u64 2097152, .int .i64 4] w fun e w' => e = .returned (.tuple #[.int .u64 (s.th 0), .bool true]) ∧ Box w' D 32 (dpl s.doc) ∧ Only D w w' := by
  have HR : Hid (Calls Tryd.prog 38 #[.int .u64 2097152, .int .i64 4] w fun e w' => e = .returned (.bool true) ∧ w = w') := Lib.hid (dmay_any 2097152 4 w)
  have HB := Lib.hid h
  have HOK := Lib.hid ok
  have c1 : w.cell? ⟨D, 48, none⟩ = some (.int .i64 (s.th 0)) := (h.read _).trans (dth_at s.doc 0 (by decide))
  have ht8 := ok.th 0
  have hw : IntKind.u64.wrap (s.th 0 : Int) = (s.th 0 : Int) := by rw [IntKind.wrap_u64]; omega
  clear h ok
  go_enter Tryd.func26, Tryd.ntmps26
  go_wp2_with (go_at_call 38; refine HR.out.mono ?_; rintro e w' ⟨rfl, rfl⟩)
  go_loop [8] (fun x => x = .int .i64 0) (fun _ => 0)
  case atStart => exact rfl
  case round =>
    subst hrel
    go_wp2
    go_ret2
    exact ⟨rfl, HB.out, Only.refl _ _⟩
set_option maxHeartbeats 2000000 in
theorem dread_th1 (h : Box w D 32 (dpl s.doc)) (ok : s.ok) : Calls Tryd.prog 26 #[.pointer (some ⟨D, 0, none⟩), .int .u64 2101248, .int .i64 4] w fun e w' => e = .returned (.tuple #[.int .u64 (s.th 1), .bool true]) ∧ Box w' D 32 (dpl s.doc) ∧ Only D w w' := by
  have HR : Hid (Calls Tryd.prog 38 #[.int .u64 2101248, .int .i64 4] w fun e w' => e = .returned (.bool true) ∧ w = w') := Lib.hid (dmay_any 2101248 4 w)
  have HB := Lib.hid h
  have HOK := Lib.hid ok
  have c1 : w.cell? ⟨D, 49, none⟩ = some (.int .i64 (s.th 1)) := (h.read _).trans (dth_at s.doc 1 (by decide))
  have ht8 := ok.th 1
  have hw : IntKind.u64.wrap (s.th 1 : Int) = (s.th 1 : Int) := by rw [IntKind.wrap_u64]; omega
  clear h ok
  go_enter Tryd.func26, Tryd.ntmps26
  go_wp2_with (go_at_call 38; refine HR.out.mono ?_; rintro e w' ⟨rfl, rfl⟩)
  go_loop [8] (fun x => x = .int .i64 0 ∨ x = .int .i64 1) (fun x => 1 - (intOf x).toNat)
  case atStart => exact .inl rfl
  case round =>
    rcases hrel with rfl | rfl
    · go_wp2
      go_round
      case rel => exact .inr (by go_num)
      case measure => simp [intOf]
    · go_wp2
      go_ret2
      exact ⟨rfl, HB.out, Only.refl _ _⟩
set_option maxHeartbeats 4000000 in
theorem dread_cl0 (h : Box w D 32 (dpl s.doc)) (ok : s.ok) : Calls Tryd.prog 26 #[.pointer (some ⟨D, 0, none⟩), .int .u64 2097156, .int .i64 4] w fun e w' => e = .returned (.tuple #[.int .u64 (s.best 0), .bool true]) ∧ Box w' D 32 (dpl (s.claim 0).doc) ∧ Only D w w' := by
  have HR : Hid (Calls Tryd.prog 38 #[.int .u64 2097156, .int .i64 4] w fun e w' => e = .returned (.bool true) ∧ w = w') := Lib.hid (dmay_any 2097156 4 w)
  have HB := Lib.hid h
  have HOK := Lib.hid ok
  have HD := Lib.hid (dbest_any h ok 0 (by decide))
  have hb8 := s.best_lt 0
  have hw : IntKind.u64.wrap (s.best 0 : Int) = (s.best 0 : Int) := by rw [IntKind.wrap_u64]; omega
  by_cases hz : s.best 0 = 0
  · have e : s.claim 0 = s := by rw [PS.claim, if_pos hz]
    rw [e]
    rw [hz] at HD ⊢
    clear h ok e hz hb8 hw
    go_enter Tryd.func26, Tryd.ntmps26
    go_wp2_with (go_at_call 38; refine HR.out.mono ?_; rintro e w' ⟨rfl, rfl⟩)
    go_loop [8] (fun x => x = .int .i64 0) (fun _ => 0)
    case atStart => exact rfl
    case round =>
      subst hrel
      go_wp2_with (go_at_call 29; refine HD.out.mono ?_; rintro e w' ⟨rfl, rfl⟩)
      go_ret2
      exact ⟨rfl, HB.out, Only.refl _ _⟩
  · have hP : Hid (Box ((w.setCell ⟨D, 16 + s.best 0, none⟩ (.bool false)).setCell ⟨D, 24 + s.best 0, none⟩ (.bool true)) D 32 (dpl (s.claim 0).doc)) := Lib.hid (by
      have h2 := (h.put (16 + s.best 0) (.bool false)).put (24 + s.best 0) (.bool true)
      rw [dpe_put s.doc false _ hb8, dse_put _ true _ hb8] at h2
      have e : s.claim 0 = { s with pe := upd s.pe (s.best 0) false, se := upd s.se (s.best 0) true } := by rw [PS.claim, if_neg hz]
      rw [e]
      exact h2)
    have HO : Hid (Only D w ((w.setCell ⟨D, 16 + s.best 0, none⟩ (.bool false)).setCell ⟨D, 24 + s.best 0, none⟩ (.bool true))) := Lib.hid (((Only.refl D w).put (p := ⟨D, 16 + s.best 0, none⟩) (.inl rfl) _).put (p := ⟨D, 24 + s.best 0, none⟩) (.inl rfl) _)
    have d1 : w.cell? ⟨D, 16 + s.best 0, none⟩ = some (.bool (s.pe (s.best 0))) := (h.read _).trans (dpe_at s.doc _ hb8)
    have d2 : (w.setCell ⟨D, 16 + s.best 0, none⟩ (.bool false)).cell? ⟨D, 24 + s.best 0, none⟩ = some (.bool (s.se (s.best 0))) := by
      rw [World.cell?_setCell_other _ _ _ _ (by simp)]
      exact (h.read _).trans (dse_at s.doc _ hb8)
    have f1 := h.warm (16 + s.best 0)
    have f2 := (h.put (16 + s.best 0) (.bool false)).warm (24 + s.best 0)
    have b0 : (0 : Int) < (s.best 0 : Int) := by omega
    have b8 : (s.best 0 : Int) < 8 := by omega
    clear h ok hz
    generalize s.best 0 = b at HD hw hP HO d1 d2 f1 f2 b0 b8 hb8 ⊢
    go_enter Tryd.func26, Tryd.ntmps26
    go_wp2_with (go_at_call 38; refine HR.out.mono ?_; rintro e w' ⟨rfl, rfl⟩)
    go_loop [8] (fun x => x = .int .i64 0) (fun _ => 0)
    case atStart => exact rfl
    case round =>
      subst hrel
      go_wp2_with (go_at_call 29; refine HD.out.mono ?_; rintro e w' ⟨rfl, rfl⟩)
      go_ret2
      exact ⟨rfl, hP.out, HO.out⟩
set_option maxHeartbeats 4000000 in
theorem dread_cl1 (h : Box w D 32 (dpl s.doc)) (ok : s.ok) : Calls Tryd.prog 26 #[.pointer (some ⟨D, 0, none⟩), .int .u64 2101252, .int .i64 4] w fun e w' => e = .returned (.tuple #[.int .u64 (s.best 1), .bool true]) ∧ Box w' D 32 (dpl (s.claim 1).doc) ∧ Only D w w' := by
  have HR : Hid (Calls Tryd.prog 38 #[.int .u64 2101252, .int .i64 4] w fun e w' => e = .returned (.bool true) ∧ w = w') := Lib.hid (dmay_any 2101252 4 w)
  have HB := Lib.hid h
  have HOK := Lib.hid ok
  have HD := Lib.hid (dbest_any h ok 1 (by decide))
  have hb8 := s.best_lt 1
  have hw : IntKind.u64.wrap (s.best 1 : Int) = (s.best 1 : Int) := by rw [IntKind.wrap_u64]; omega
  by_cases hz : s.best 1 = 0
  · have e : s.claim 1 = s := by rw [PS.claim, if_pos hz]
    rw [e]
    rw [hz] at HD ⊢
    clear h ok e hz hb8 hw
    go_enter Tryd.func26, Tryd.ntmps26
    go_wp2_with (go_at_call 38; refine HR.out.mono ?_; rintro e w' ⟨rfl, rfl⟩)
    go_loop [8] (fun x => x = .int .i64 0 ∨ x = .int .i64 1) (fun x => 1 - (intOf x).toNat)
    case atStart => exact .inl rfl
    case round =>
      rcases hrel with rfl | rfl
      · go_wp2
        go_round
        case rel => exact .inr (by go_num)
        case measure => simp [intOf]
      · go_wp2_with (go_at_call 29; refine HD.out.mono ?_; rintro e w' ⟨rfl, rfl⟩)
        go_ret2
        exact ⟨rfl, HB.out, Only.refl _ _⟩
  · have hP : Hid (Box ((w.setCell ⟨D, 16 + s.best 1, none⟩ (.bool false)).setCell ⟨D, 24 + s.best 1, none⟩ (.bool true)) D 32 (dpl (s.claim 1).doc)) := Lib.hid (by
      have h2 := (h.put (16 + s.best 1) (.bool false)).put (24 + s.best 1) (.bool true)
      rw [dpe_put s.doc false _ hb8, dse_put _ true _ hb8] at h2
      have e : s.claim 1 = { s with pe := upd s.pe (s.best 1) false, se := upd s.se (s.best 1) true } := by rw [PS.claim, if_neg hz]
      rw [e]
      exact h2)
    have HO : Hid (Only D w ((w.setCell ⟨D, 16 + s.best 1, none⟩ (.bool false)).setCell ⟨D, 24 + s.best 1, none⟩ (.bool true))) := Lib.hid (((Only.refl D w).put (p := ⟨D, 16 + s.best 1, none⟩) (.inl rfl) _).put (p := ⟨D, 24 + s.best 1, none⟩) (.inl rfl) _)
    have d1 : w.cell? ⟨D, 16 + s.best 1, none⟩ = some (.bool (s.pe (s.best 1))) := (h.read _).trans (dpe_at s.doc _ hb8)
    have d2 : (w.setCell ⟨D, 16 + s.best 1, none⟩ (.bool false)).cell? ⟨D, 24 + s.best 1, none⟩ = some (.bool (s.se (s.best 1))) := by
      rw [World.cell?_setCell_other _ _ _ _ (by simp)]
      exact (h.read _).trans (dse_at s.doc _ hb8)
    have f1 := h.warm (16 + s.best 1)
    have f2 := (h.put (16 + s.best 1) (.bool false)).warm (24 + s.best 1)
    have b0 : (0 : Int) < (s.best 1 : Int) := by omega
    have b8 : (s.best 1 : Int) < 8 := by omega
    clear h ok hz
    generalize s.best 1 = b at HD hw hP HO d1 d2 f1 f2 b0 b8 hb8 ⊢
    go_enter Tryd.func26, Tryd.ntmps26
    go_wp2_with (go_at_call 38; refine HR.out.mono ?_; rintro e w' ⟨rfl, rfl⟩)
    go_loop [8] (fun x => x = .int .i64 0 ∨ x = .int .i64 1) (fun x => 1 - (intOf x).toNat)
    case atStart => exact .inl rfl
    case round =>
      rcases hrel with rfl | rfl
      · go_wp2
        go_round
        case rel => exact .inr (by go_num)
        case measure => simp [intOf]
      · go_wp2_with (go_at_call 29; refine HD.out.mono ?_; rintro e w' ⟨rfl, rfl⟩)
        go_ret2
        exact ⟨rfl, hP.out, HO.out⟩
set_option maxHeartbeats 2000000 in
theorem dread_none (off : Nat) (hr : isReg off 4 = true) (hq : ¬ (1 ≤ off / 4 ∧ off / 4 < 8)) (h1 : off ≠ 8320) (h2 : off ≠ 8192) (h3 : off ≠ 2101248) (h4 : off ≠ 2097152) (h5 : off ≠ 2101252) (h6 : off ≠ 2097156) (h7 : off ≠ 4096) : Calls Tryd.prog 26 #[.pointer (some ⟨D, 0, none⟩), .int .u64 off, .int .i64 4] w fun e w' => e = .returned (.tuple #[.int .u64 0, .bool true]) ∧ w = w' := by
  have HR := Lib.hid (dmay_any off 4 w)
  rw [hr] at HR
  have ho4 : off % 4 = 0 := (of_decide_eq_true hr).2.1
  have e1 : ((off : Int) == 8320) = false := beq_eq_false_iff_ne.2 (by omega)
  have e2 : ((off : Int) == 8192) = false := beq_eq_false_iff_ne.2 (by omega)
  have e3 : ((off : Int) == 2101248) = false := beq_eq_false_iff_ne.2 (by omega)
  have e4 : ((off : Int) == 2097152) = false := beq_eq_false_iff_ne.2 (by omega)
  have e5 : ((off : Int) == 2101252) = false := beq_eq_false_iff_ne.2 (by omega)
  have e6 : ((off : Int) == 2097156) = false := beq_eq_false_iff_ne.2 (by omega)
  have e7 : ((off : Int) == 4096) = false := beq_eq_false_iff_ne.2 (by omega)
  have hcs : (4 : Int) ≤ (off : Int) ∧ ¬ (off : Int) < 32 ∨ ¬ (4 : Int) ≤ (off : Int) := by omega
  clear hr hq h1 h2 h3 h4 h5 h6 h7 ho4
  rcases hcs with ⟨k1, k2⟩ | k1
  all_goals
    go_enter Tryd.func26, Tryd.ntmps26
    go_wp2_with (go_at_call 38; refine HR.out.mono ?_; rintro e w' ⟨rfl, rfl⟩)
    go_loop [8] (fun x => x = .int .i64 0 ∨ x = .int .i64 1 ∨ x = .int .i64 2) (fun x => 2 - (intOf x).toNat)
    case atStart => exact .inl rfl
    case round =>
      rcases hrel with rfl | rfl | rfl
      · go_wp2
        go_round
        case rel => exact .inr (.inl (by go_num))
        case measure => simp [intOf]
      · go_wp2
        go_round
        case rel => exact .inr (.inr (by go_num))
        case measure => simp [intOf]
      · go_wp2
        go_ret2
        exact ⟨rfl, rfl⟩
theorem dread_any (h : Box w D 32 (dpl s.doc)) (ok : s.ok) (off : Nat) (wd : Int) : Calls Tryd.prog 26 #[.pointer (some ⟨D, 0, none⟩), .int .u64 off, .int .i64 wd] w fun e w' => e = .returned (.tuple #[.int .u64 (s.rdV off wd), .bool (isReg off wd)]) ∧ Box w' D 32 (dpl (s.rdI off wd).doc) ∧ Only D w w' := by
  unfold PS.rdV PS.rdI
  by_cases hr : isReg off wd = true
  · obtain rfl := isReg_width hr
    rw [if_pos hr, if_pos hr, hr]
    by_cases hp : 1 ≤ off / 4 ∧ off / 4 < 8
    · have e : s.rd off = (s.pr (off / 4), s) := by rw [PS.rd, if_pos hp]
      rw [e]
      exact (dread_pri h ok (off / 4) off rfl hp.1 hp.2 hr).mono fun e w' hz => ⟨hz.1, hz.2 ▸ h, hz.2 ▸ Only.refl D w⟩
    by_cases hen1 : off = 8320
    · subst hen1
      exact dread_en1 h ok
    by_cases hen0 : off = 8192
    · subst hen0
      exact dread_en0 h ok
    by_cases hth1 : off = 2101248
    · subst hth1
      exact dread_th1 h ok
    by_cases hth0 : off = 2097152
    · subst hth0
      exact dread_th0 h ok
    by_cases hcl1 : off = 2101252
    · subst hcl1
      exact dread_cl1 h ok
    by_cases hcl0 : off = 2097156
    · subst hcl0
      exact dread_cl0 h ok
    by_cases hpnd : off = 4096
    · subst hpnd
      exact dread_pnd h ok
    have e : s.rd off = (0, s) := by rw [PS.rd, if_neg hp, if_neg hen1, if_neg hen0, if_neg hth1, if_neg hth0, if_neg hcl1, if_neg hcl0, if_neg hpnd]
    rw [e]
    exact (dread_none off hr hp hen1 hen0 hth1 hth0 hcl1 hcl0 hpnd).mono fun e w' hz => ⟨hz.1, hz.2 ▸ h, hz.2 ▸ Only.refl D w⟩
  · rw [if_neg hr, if_neg hr, Bool.eq_false_iff.2 hr]
    exact (dread_no off wd (Bool.eq_false_iff.2 hr)).mono fun e w' hz => ⟨hz.1, hz.2 ▸ h, hz.2 ▸ Only.refl D w⟩
end
end Go.Proofs.YtlgefljbhbefgaaDoor
