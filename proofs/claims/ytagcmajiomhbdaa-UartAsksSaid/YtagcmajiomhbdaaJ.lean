/- UartAsks' body. -/
import Derived.Test.YtagcmajiomhbdaaI
set_option linter.unusedVariables false
set_option linter.unusedSimpArgs false
namespace Go.Proofs.Ytagcmajiomhbdaa
open Go.RowKit
theorem asks_long (a : Option Addr) (len cap : Nat) (h : 120 < len) (w : World) : Calls Try.prog 6 #[.slice a len cap] w (Yes w) := by
  go_enter Try.func6, Try.ntmps6
  go_wp2_with (go_at_call 8; refine (awake_any _).mono ?_; rintro e w' ⟨rfl, bel⟩)
  go_ret
  exact ⟨rfl, bel⟩
/-- A line that stands behind w, alone. -/
structure Al (w wr : World) (B : Nat) (s : US) : Prop where
  ua : Ua wr B s (fun b => w.heap.size ≤ b)
  bel : Below w.heap.size w wr
section
variable {w wr w2 : World} {B : Nat} {s s' : US}
theorem Al.wrote (h : Al w wr B s) (hw : Wr (fun b => w.heap.size ≤ b) B s' wr w2) : Al w w2 B s' :=
  ⟨hw.1.mono fun b hb => by
    rcases hb with hb | hb
    · exact hb
    · have := h.bel.size; omega, h.bel.trans (hw.2.below (fun _ h => h) h.bel.size)⟩
theorem Al.read (h : Al w wr B s) (hu : Ua w2 B s' (fun b => w.heap.size ≤ b)) (ht : Touch (fun b => w.heap.size ≤ b) wr w2) : Al w w2 B s' := h.wrote (Wr.ofRead2 hu ht)
theorem Al.below (h : Al w wr B s) (hb : Below wr.heap.size wr w2) : Al w w2 B s :=
  ⟨by
    obtain ⟨o, q, hv⟩ := h.ua
    exact ⟨o, q, hv.box.over hb hv.box.inHeap, hv.lo.below hb (Nat.le_refl _), hv.lq.below hb (Nat.le_refl _), hv.kB, hv.ko, hv.kq, hv.ne, hv.ok⟩, h.bel.trans (hb.mono h.bel.size)⟩
end
theorem asks2 {s : US} (h : s.asks = 2) : s.ier / 2 % 2 = 1 := by
  unfold US.asks at h
  (repeat' split at h) <;> simp_all
theorem asks4 {s : US} (h : s.asks = 4) : s.ier % 2 = 1 ∧ s.q ≠ [] := by
  unfold US.asks at h
  (repeat' split at h) <;> simp_all
theorem asks6 {s : US} (h : s.asks = 6) : s.ier / 4 % 2 = 1 ∧ s.ov = true := by
  unfold US.asks at h
  (repeat' split at h) <;> simp_all
/-- What a dump's bytes are. -/
theorem dump_bytes (s : US) (h : s.ok) : ∃ D : ByteArray, D = str (s.regs ++ s.q) ∧ ∃ (h0 : 0 < D.size) (h7 : 7 < D.size), 9 ≤ D.size ∧ D[0].toNat = s.ier ∧ D[7].toNat = oneN s.ov := by
  refine ⟨_, rfl, by rw [str_size]; simp [US.regs], by rw [str_size]; simp [US.regs], by rw [str_size]; simp [US.regs], ?_, ?_⟩
  · have hi := h.ier
    show (UInt8.ofNat s.ier).toNat = s.ier
    exact ofN (by omega)
  · show (UInt8.ofNat (oneN s.ov)).toNat = oneN s.ov
    exact ofN (oneN_lt _)
set_option maxHeartbeats 12800000 in
set_option maxRecDepth 200000 in
theorem asks_all (a : Option Addr) (len cap : Nat) (l : List Deed) (hl : len ≤ 120) (w : World) (hf : IsDeeds w a len l) : Calls Try.prog 6 #[.slice a len cap] w (Yes w) := by
  have HL := Lib.hid hf.1
  have LA := Lib.hid fun wx bel => hf.later (wx := wx) bel
  clear hf
  go_enter Try.func6, Try.ntmps6
  go_wp2_with (go_at_call 9; refine (new_any _).mono ?_; rintro e w1 ⟨rfl, rfl⟩)
  have hS : Al w (w.alloc (.cells (uc .zero (.slice none 0 0) (.slice none 0 0)) 49)) w.heap.size .zero := ⟨new_ua w (Nat.le_refl _), (Below.refl _ _).alloc (Nat.le_refl _) _⟩
  generalize (w.alloc (.cells (uc .zero (.slice none 0 0) (.slice none 0 0)) 49)) = w1 at hS ⊢
  generalize hBe : w.heap.size = B at hS ⊢
  have HBe := Lib.hid hBe
  clear hBe
  go_loopw [4] (fun i wr => ∃ (k : Nat) (s : US), k ≤ len ∧ i = .int .i64 k ∧ Al w wr B s ∧ s.out.length ≤ k) (fun i _ => len - (intOf i).toNat)
  case atStart => exact ⟨0, .zero, Nat.zero_le _, rfl, hS, Nat.zero_le _⟩
  case round =>
    obtain ⟨k, s, hk, rfl, hst, hout⟩ := hrel
    clear hS
    have k1 : (0 : Int) ≤ (k : Int) := Int.natCast_nonneg _
    by_cases hlt : k < len
    · obtain ⟨f, hk2⟩ : ∃ f, l[k]? = some f := ⟨_, List.getElem?_eq_getElem (by rw [HL.out]; exact hlt)⟩
      obtain ⟨b, off, rfl, hbb, c0, c1, c2, c3, hn⟩ := (LA.out wr hst.bel).2 k f hk2
      have d0 : wr.cell? ⟨b, off + k * 4, none⟩ = some (.int .u8 f.k) := by rw [Nat.mul_comm]; exact c0
      have d1 : wr.cell? ⟨b, off + k * 4 + 1, none⟩ = some (.int .u64 f.off) := by rw [Nat.mul_comm]; exact c1
      have d2 : wr.cell? ⟨b, off + k * 4 + 2, none⟩ = some (.int .u64 f.v) := by rw [Nat.mul_comm]; exact c2
      have d3 : wr.cell? ⟨b, off + k * 4 + 3, none⟩ = some (.int .i64 f.wd) := by rw [Nat.mul_comm]; exact c3
      have k2 : (k : Int) < (len : Int) := by omega
      have HD := Lib.hid (does_any hst.ua f hn (by omega))
      have HO := Lib.hid (And.intro (deed_out s f) hst)
      clear c0 c1 c2 c3 hk2 hbb hst hn
      go_wp2_with (go_at_call 23; refine HD.out.mono ?_; rintro e w2 ⟨rfl, hz⟩; have HZ := Lib.hid (HO.out.2.wrote hz); clear hz)
      go_roundw
      case rel => exact ⟨k + 1, _, by omega, by go_num, HZ.out, by have := HO.out.1; omega⟩
      case measure => simp [intOf]; omega
    · have HB := Lib.hid hst
      clear hst
      obtain rfl : k = len := by omega
      clear hout hlt
      obtain ⟨o, q, hv⟩ := HB.out.ua
      have hlev := level_any hv
      have hr2 := Read_good HB.out.ua 2 (by decide)
      have hrd2 : s.rd 2 = { s with dn := if s.asks = 2 then false else s.dn } := rfl
      have hrv : s.rv 2 = s.asks + if s.en then 192 else 0 := rfl
      have hok := hv.ok
      have hi : s.ier < 256 := by have := hv.ok.ier; omega
      have hc := asks_cases s
      have ha2 := asks2 (s := s)
      have ha4 := asks4 (s := s)
      have ha6 := asks6 (s := s)
      have m1 := and1c hi
      have m2 := and2c hi
      have m4 := and4c hi
      obtain ⟨s1, hs1⟩ : ∃ s1, s1 = s.rd 2 := ⟨_, rfl⟩
      rw [← hs1] at hr2
      have e1 : s1.q = s.q ∧ s1.ier = s.ier ∧ s1.ov = s.ov ∧ s1.ok := by rw [hs1, hrd2]; exact ⟨rfl, rfl, rfl, ⟨hok.ier, hok.lcr, hok.mcr, hok.scr, hok.d0, hok.d1, hok.q⟩⟩
      obtain ⟨D, hD, h0, h7, h9, v0, v7⟩ := dump_bytes s1 e1.2.2.2
      rw [e1.2.1] at v0
      rw [e1.2.2.1] at v7
      have hrv5 : s1.rv 5 = 96 + (if s.q = [] then 0 else 1) + if s.ov then 2 else 0 := by
        show 96 + (if s1.q = [] then 0 else 1) + (if s1.ov then 2 else 0) = _
        rw [e1.1, e1.2.2.1]
      obtain ⟨s2, hs2⟩ : ∃ s2, s2 = s1.rd 5 := ⟨_, rfl⟩
      have hrv6 : s2.rv 5 = 96 + (if s.q = [] then 0 else 1) + 0 := by
        rw [hs2]
        show 96 + (if s1.q = [] then 0 else 1) + (if false then 2 else 0) = _
        rw [e1.1]; rfl
      obtain ⟨s3, hs3⟩ : ∃ s3, s3 = s2.rd 5 := ⟨_, rfl⟩
      have e3 : s3.q = s.q := by rw [hs3, hs2, ← e1.1]; rfl
      have hz2 := fun wx (h : Ua wx B s1 (fun b => w.heap.size ≤ b)) => dump_any h
      rw [← hD] at hz2
      have hz5 := fun wx (h : Ua wx B s1 (fun b => w.heap.size ≤ b)) => Read_good h 5 (by decide)
      rw [← hs2] at hz5
      have hz6 := fun wx (h : Ua wx B s2 (fun b => w.heap.size ≤ b)) => Read_good h 5 (by decide)
      rw [← hs3] at hz6
      have hw1 := fun wx (h : Ua wx B s1 (fun b => w.heap.size ≤ b)) => (show Calls Try.prog 13 #[.pointer (some ⟨B, 0, none⟩)] wx fun e w' => e = .returned (.int .i64 s.q.length) ∧ wx = w' from by obtain ⟨o, q, hu⟩ := h; rw [← e1.1]; exact waiting_any hu)
      have hw3 := fun wx (h : Ua wx B s3 (fun b => w.heap.size ≤ b)) => (show Calls Try.prog 13 #[.pointer (some ⟨B, 0, none⟩)] wx fun e w' => e = .returned (.int .i64 s.q.length) ∧ wx = w' from by obtain ⟨o, q, hu⟩ := h; rw [← e3]; exact waiting_any hu)
      generalize s.rv 2 = n at hr2 hrv
      generalize s1.rv 5 = n5 at hz5 hrv5
      generalize s2.rv 5 = n6 at hz6 hrv6
      generalize s.asks = aa at hlev hrv hc ha2 ha4 ha6 hrd2
      generalize s.ier = ier at v0 m1 m2 m4 ha2 ha4 ha6
      generalize s.ov = ov at v7 hrv5 ha6
      generalize s.en = en at hrv
      have hql : (s.q = [] ∧ s.q.length = 0) ∨ (s.q ≠ [] ∧ 0 < s.q.length) := by
        rcases s.q with _ | ⟨c, r⟩
        · exact .inl ⟨rfl, rfl⟩
        · right; simp
      have ha4' : aa = 4 → ier % 2 = 1 ∧ 0 < s.q.length := fun h => ⟨(ha4 h).1, by
        rcases hql with hq | hq
        · exact absurd hq.1 (ha4 h).2
        · exact hq.2⟩
      have hrv5' : n5 = 96 + (if s.q.length = 0 then 0 else 1) + if ov then 2 else 0 := by
        rw [hrv5]
        rcases hql with hq | hq
        · rw [if_pos hq.1, if_pos hq.2]
        · rw [if_neg hq.1, if_neg (show ¬ s.q.length = 0 by omega)]
      have hrv6' : n6 = 96 + (if s.q.length = 0 then 0 else 1) + 0 := by
        rw [hrv6]
        rcases hql with hq | hq
        · rw [if_pos hq.1, if_pos hq.2]
        · rw [if_neg hq.1, if_neg (show ¬ s.q.length = 0 by omega)]
      clear hrv5 hrv6 ha4 hql
      generalize s.q.length = ql at hw1 hw3 ha4' hrv5' hrv6'
      have HLEV := Lib.hid hlev
      have HR2 := Lib.hid hr2
      have HZ2 := Lib.hid hz2
      have HZ5 := Lib.hid hz5
      have HZ6 := Lib.hid hz6
      have HW1 := Lib.hid hw1
      have HW3 := Lib.hid hw3
      clear hv hlev hr2 hz2 hz5 hz6 hw1 hw3 hrd2 hs1 hs2 hs3 hD e1 e3 hok hi
      have f1 : bits .and .u64 1 15 = 1 := by kernel_rfl
      have f2 : bits .and .u64 2 15 = 2 := by kernel_rfl
      have f3 : bits .and .u64 4 15 = 4 := by kernel_rfl
      have f4 : bits .and .u64 6 15 = 6 := by kernel_rfl
      have f5 : bits .and .u64 193 15 = 1 := by kernel_rfl
      have f6 : bits .and .u64 194 15 = 2 := by kernel_rfl
      have f7 : bits .and .u64 196 15 = 4 := by kernel_rfl
      have f8 : bits .and .u64 198 15 = 6 := by kernel_rfl
      have g1 : bits .or .u64 1 192 = 193 := by kernel_rfl
      have g2 : bits .or .u64 2 192 = 194 := by kernel_rfl
      have g3 : bits .or .u64 4 192 = 196 := by kernel_rfl
      have g4 : bits .or .u64 6 192 = 198 := by kernel_rfl
      have i1 : bits .and .u64 96 1 = 0 := by kernel_rfl
      have i2 : bits .and .u64 97 1 = 1 := by kernel_rfl
      have i3 : bits .and .u64 98 1 = 0 := by kernel_rfl
      have i4 : bits .and .u64 99 1 = 1 := by kernel_rfl
      have j1 : bits .and .u64 96 2 = 0 := by kernel_rfl
      have j2 : bits .and .u64 97 2 = 0 := by kernel_rfl
      have j3 : bits .and .u64 98 2 = 2 := by kernel_rfl
      have j4 : bits .and .u64 99 2 = 2 := by kernel_rfl
      have l1 : bits .andNot .u64 96 2 = 96 := by kernel_rfl
      have l2 : bits .andNot .u64 97 2 = 97 := by kernel_rfl
      have l3 : bits .andNot .u64 98 2 = 96 := by kernel_rfl
      have l4 : bits .andNot .u64 99 2 = 97 := by kernel_rfl
      rcases hc with rfl | rfl | rfl | rfl
      · clear m1 m2 m4 ha2 ha6
        have hqq : ql = 0 ∨ 0 < ql := by omega
        rcases hqq with rfl | hqp
        · clear ha4'
          rw [if_pos rfl] at hrv5' hrv6'
          cases en <;> cases ov <;> simp only [if_true, if_false, Bool.false_eq_true] at hrv hrv5' hrv6' <;> subst hrv hrv5' hrv6'
          all_goals
            as_aux_lemma =>
              go_wp2_with (first | (go_at_call 11; refine HLEV.out.mono ?_; rintro e w' ⟨rfl, rfl⟩) | (go_at_call 21; first | (have hs := HS2; clear hs; refine (HZ6.out _ HS2.out.ua).mono ?_; rintro e w3 ⟨rfl, hu, ht⟩; have HS3 := Lib.hid (HS2.out.read hu ht); clear hu ht) | (have hs := HS15; clear hs; refine (HZ5.out _ HS15.out.ua).mono ?_; rintro e w3 ⟨rfl, hu, ht⟩; have HS2 := Lib.hid (HS15.out.read hu ht); clear hu ht) | (refine HR2.out.mono ?_; rintro e w3 ⟨rfl, hu, ht⟩; have HS1 := Lib.hid (HB.out.read hu ht); clear hu ht)) | (go_at_call 14; refine (HZ2.out _ HS1.out.ua).mono ?_; rintro e w3 ⟨rfl, hb⟩; have HS15 := Lib.hid (HS1.out.below hb); clear hb) | (go_at_call 13; first | (have hs := HS3; clear hs; refine (HW3.out _ HS3.out.ua).mono ?_; rintro e w' ⟨rfl, rfl⟩) | (refine (HW1.out _ HS15.out.ua).mono ?_; rintro e w' ⟨rfl, rfl⟩)) | (go_at_call 8; refine (awake_any _).mono ?_; rintro e w9 ⟨rfl, bel9⟩))
              go_ret
              exact ⟨rfl, HS3.out.bel.trans (bel9.mono HS3.out.bel.size)⟩
        · have hq1 : (0 : Int) < (ql : Int) := by omega
          have hq2 : ((ql : Int) == 0) = false := beq_eq_false_iff_ne.2 (by omega)
          rw [if_neg (by omega)] at hrv5' hrv6'
          clear ha4' hqp
          cases en <;> cases ov <;> simp only [if_true, if_false, Bool.false_eq_true] at hrv hrv5' hrv6' <;> subst hrv hrv5' hrv6'
          all_goals
            as_aux_lemma =>
              go_wp2_with (first | (go_at_call 11; refine HLEV.out.mono ?_; rintro e w' ⟨rfl, rfl⟩) | (go_at_call 21; first | (have hs := HS2; clear hs; refine (HZ6.out _ HS2.out.ua).mono ?_; rintro e w3 ⟨rfl, hu, ht⟩; have HS3 := Lib.hid (HS2.out.read hu ht); clear hu ht) | (have hs := HS15; clear hs; refine (HZ5.out _ HS15.out.ua).mono ?_; rintro e w3 ⟨rfl, hu, ht⟩; have HS2 := Lib.hid (HS15.out.read hu ht); clear hu ht) | (refine HR2.out.mono ?_; rintro e w3 ⟨rfl, hu, ht⟩; have HS1 := Lib.hid (HB.out.read hu ht); clear hu ht)) | (go_at_call 14; refine (HZ2.out _ HS1.out.ua).mono ?_; rintro e w3 ⟨rfl, hb⟩; have HS15 := Lib.hid (HS1.out.below hb); clear hb) | (go_at_call 13; first | (have hs := HS3; clear hs; refine (HW3.out _ HS3.out.ua).mono ?_; rintro e w' ⟨rfl, rfl⟩) | (refine (HW1.out _ HS15.out.ua).mono ?_; rintro e w' ⟨rfl, rfl⟩)) | (go_at_call 8; refine (awake_any _).mono ?_; rintro e w9 ⟨rfl, bel9⟩))
              go_ret
              exact ⟨rfl, HS3.out.bel.trans (bel9.mono HS3.out.bel.size)⟩
      · have hier := ha2 rfl
        obtain ⟨m2, _⟩ : bits .and .u8 (ier : Int) 2 = 2 ∧ True := by
          rcases m2 with ⟨h, h'⟩ | ⟨h, h'⟩
          · omega
          · exact ⟨h, trivial⟩
        clear m1 m4 ha2 ha6 hier
        have hqq : ql = 0 ∨ 0 < ql := by omega
        rcases hqq with rfl | hqp
        · clear ha4'
          rw [if_pos rfl] at hrv5' hrv6'
          cases en <;> cases ov <;> simp only [if_true, if_false, Bool.false_eq_true] at hrv hrv5' hrv6' <;> subst hrv hrv5' hrv6'
          all_goals
            as_aux_lemma =>
              go_wp2_with (first | (go_at_call 11; refine HLEV.out.mono ?_; rintro e w' ⟨rfl, rfl⟩) | (go_at_call 21; first | (have hs := HS2; clear hs; refine (HZ6.out _ HS2.out.ua).mono ?_; rintro e w3 ⟨rfl, hu, ht⟩; have HS3 := Lib.hid (HS2.out.read hu ht); clear hu ht) | (have hs := HS15; clear hs; refine (HZ5.out _ HS15.out.ua).mono ?_; rintro e w3 ⟨rfl, hu, ht⟩; have HS2 := Lib.hid (HS15.out.read hu ht); clear hu ht) | (refine HR2.out.mono ?_; rintro e w3 ⟨rfl, hu, ht⟩; have HS1 := Lib.hid (HB.out.read hu ht); clear hu ht)) | (go_at_call 14; refine (HZ2.out _ HS1.out.ua).mono ?_; rintro e w3 ⟨rfl, hb⟩; have HS15 := Lib.hid (HS1.out.below hb); clear hb) | (go_at_call 13; first | (have hs := HS3; clear hs; refine (HW3.out _ HS3.out.ua).mono ?_; rintro e w' ⟨rfl, rfl⟩) | (refine (HW1.out _ HS15.out.ua).mono ?_; rintro e w' ⟨rfl, rfl⟩)) | (go_at_call 8; refine (awake_any _).mono ?_; rintro e w9 ⟨rfl, bel9⟩))
              go_ret
              exact ⟨rfl, HS3.out.bel.trans (bel9.mono HS3.out.bel.size)⟩
        · have hq1 : (0 : Int) < (ql : Int) := by omega
          have hq2 : ((ql : Int) == 0) = false := beq_eq_false_iff_ne.2 (by omega)
          rw [if_neg (by omega)] at hrv5' hrv6'
          clear ha4' hqp
          cases en <;> cases ov <;> simp only [if_true, if_false, Bool.false_eq_true] at hrv hrv5' hrv6' <;> subst hrv hrv5' hrv6'
          all_goals
            as_aux_lemma =>
              go_wp2_with (first | (go_at_call 11; refine HLEV.out.mono ?_; rintro e w' ⟨rfl, rfl⟩) | (go_at_call 21; first | (have hs := HS2; clear hs; refine (HZ6.out _ HS2.out.ua).mono ?_; rintro e w3 ⟨rfl, hu, ht⟩; have HS3 := Lib.hid (HS2.out.read hu ht); clear hu ht) | (have hs := HS15; clear hs; refine (HZ5.out _ HS15.out.ua).mono ?_; rintro e w3 ⟨rfl, hu, ht⟩; have HS2 := Lib.hid (HS15.out.read hu ht); clear hu ht) | (refine HR2.out.mono ?_; rintro e w3 ⟨rfl, hu, ht⟩; have HS1 := Lib.hid (HB.out.read hu ht); clear hu ht)) | (go_at_call 14; refine (HZ2.out _ HS1.out.ua).mono ?_; rintro e w3 ⟨rfl, hb⟩; have HS15 := Lib.hid (HS1.out.below hb); clear hb) | (go_at_call 13; first | (have hs := HS3; clear hs; refine (HW3.out _ HS3.out.ua).mono ?_; rintro e w' ⟨rfl, rfl⟩) | (refine (HW1.out _ HS15.out.ua).mono ?_; rintro e w' ⟨rfl, rfl⟩)) | (go_at_call 8; refine (awake_any _).mono ?_; rintro e w9 ⟨rfl, bel9⟩))
              go_ret
              exact ⟨rfl, HS3.out.bel.trans (bel9.mono HS3.out.bel.size)⟩
      · obtain ⟨hier, hqp⟩ := ha4' rfl
        obtain ⟨m1, _⟩ : bits .and .u8 (ier : Int) 1 = 1 ∧ True := by
          rcases m1 with ⟨h, h'⟩ | ⟨h, h'⟩
          · omega
          · exact ⟨h, trivial⟩
        have hq1 : (0 : Int) < (ql : Int) := by omega
        have hq2 : ((ql : Int) == 0) = false := beq_eq_false_iff_ne.2 (by omega)
        rw [if_neg (by omega)] at hrv5' hrv6'
        clear m2 m4 ha2 ha4' ha6 hier hqp
        cases en <;> cases ov <;> simp only [if_true, if_false, Bool.false_eq_true] at hrv hrv5' hrv6' <;> subst hrv hrv5' hrv6'
        all_goals
          as_aux_lemma =>
            go_wp2_with (first | (go_at_call 11; refine HLEV.out.mono ?_; rintro e w' ⟨rfl, rfl⟩) | (go_at_call 21; first | (have hs := HS2; clear hs; refine (HZ6.out _ HS2.out.ua).mono ?_; rintro e w3 ⟨rfl, hu, ht⟩; have HS3 := Lib.hid (HS2.out.read hu ht); clear hu ht) | (have hs := HS15; clear hs; refine (HZ5.out _ HS15.out.ua).mono ?_; rintro e w3 ⟨rfl, hu, ht⟩; have HS2 := Lib.hid (HS15.out.read hu ht); clear hu ht) | (refine HR2.out.mono ?_; rintro e w3 ⟨rfl, hu, ht⟩; have HS1 := Lib.hid (HB.out.read hu ht); clear hu ht)) | (go_at_call 14; refine (HZ2.out _ HS1.out.ua).mono ?_; rintro e w3 ⟨rfl, hb⟩; have HS15 := Lib.hid (HS1.out.below hb); clear hb) | (go_at_call 13; first | (have hs := HS3; clear hs; refine (HW3.out _ HS3.out.ua).mono ?_; rintro e w' ⟨rfl, rfl⟩) | (refine (HW1.out _ HS15.out.ua).mono ?_; rintro e w' ⟨rfl, rfl⟩)) | (go_at_call 8; refine (awake_any _).mono ?_; rintro e w9 ⟨rfl, bel9⟩))
            go_ret
            exact ⟨rfl, HS3.out.bel.trans (bel9.mono HS3.out.bel.size)⟩
      · obtain ⟨hier, hov⟩ := ha6 rfl
        subst hov
        obtain ⟨m4, _⟩ : bits .and .u8 (ier : Int) 4 = 4 ∧ True := by
          rcases m4 with ⟨h, h'⟩ | ⟨h, h'⟩
          · omega
          · exact ⟨h, trivial⟩
        clear m1 m2 ha2 ha6 hier
        have hqq : ql = 0 ∨ 0 < ql := by omega
        rcases hqq with rfl | hqp
        · clear ha4'
          rw [if_pos rfl] at hrv5' hrv6'
          cases en <;> simp only [if_true, if_false, Bool.false_eq_true] at hrv hrv5' hrv6' <;> subst hrv hrv5' hrv6'
          all_goals
            as_aux_lemma =>
              go_wp2_with (first | (go_at_call 11; refine HLEV.out.mono ?_; rintro e w' ⟨rfl, rfl⟩) | (go_at_call 21; first | (have hs := HS2; clear hs; refine (HZ6.out _ HS2.out.ua).mono ?_; rintro e w3 ⟨rfl, hu, ht⟩; have HS3 := Lib.hid (HS2.out.read hu ht); clear hu ht) | (have hs := HS15; clear hs; refine (HZ5.out _ HS15.out.ua).mono ?_; rintro e w3 ⟨rfl, hu, ht⟩; have HS2 := Lib.hid (HS15.out.read hu ht); clear hu ht) | (refine HR2.out.mono ?_; rintro e w3 ⟨rfl, hu, ht⟩; have HS1 := Lib.hid (HB.out.read hu ht); clear hu ht)) | (go_at_call 14; refine (HZ2.out _ HS1.out.ua).mono ?_; rintro e w3 ⟨rfl, hb⟩; have HS15 := Lib.hid (HS1.out.below hb); clear hb) | (go_at_call 13; first | (have hs := HS3; clear hs; refine (HW3.out _ HS3.out.ua).mono ?_; rintro e w' ⟨rfl, rfl⟩) | (refine (HW1.out _ HS15.out.ua).mono ?_; rintro e w' ⟨rfl, rfl⟩)) | (go_at_call 8; refine (awake_any _).mono ?_; rintro e w9 ⟨rfl, bel9⟩))
              go_ret
              exact ⟨rfl, HS3.out.bel.trans (bel9.mono HS3.out.bel.size)⟩
        · have hq1 : (0 : Int) < (ql : Int) := by omega
          have hq2 : ((ql : Int) == 0) = false := beq_eq_false_iff_ne.2 (by omega)
          rw [if_neg (by omega)] at hrv5' hrv6'
          clear ha4' hqp
          cases en <;> simp only [if_true, if_false, Bool.false_eq_true] at hrv hrv5' hrv6' <;> subst hrv hrv5' hrv6'
          all_goals
            as_aux_lemma =>
              go_wp2_with (first | (go_at_call 11; refine HLEV.out.mono ?_; rintro e w' ⟨rfl, rfl⟩) | (go_at_call 21; first | (have hs := HS2; clear hs; refine (HZ6.out _ HS2.out.ua).mono ?_; rintro e w3 ⟨rfl, hu, ht⟩; have HS3 := Lib.hid (HS2.out.read hu ht); clear hu ht) | (have hs := HS15; clear hs; refine (HZ5.out _ HS15.out.ua).mono ?_; rintro e w3 ⟨rfl, hu, ht⟩; have HS2 := Lib.hid (HS15.out.read hu ht); clear hu ht) | (refine HR2.out.mono ?_; rintro e w3 ⟨rfl, hu, ht⟩; have HS1 := Lib.hid (HB.out.read hu ht); clear hu ht)) | (go_at_call 14; refine (HZ2.out _ HS1.out.ua).mono ?_; rintro e w3 ⟨rfl, hb⟩; have HS15 := Lib.hid (HS1.out.below hb); clear hb) | (go_at_call 13; first | (have hs := HS3; clear hs; refine (HW3.out _ HS3.out.ua).mono ?_; rintro e w' ⟨rfl, rfl⟩) | (refine (HW1.out _ HS15.out.ua).mono ?_; rintro e w' ⟨rfl, rfl⟩)) | (go_at_call 8; refine (awake_any _).mono ?_; rintro e w9 ⟨rfl, bel9⟩))
              go_ret
              exact ⟨rfl, HS3.out.bel.trans (bel9.mono HS3.out.bel.size)⟩
end Go.Proofs.Ytagcmajiomhbdaa
