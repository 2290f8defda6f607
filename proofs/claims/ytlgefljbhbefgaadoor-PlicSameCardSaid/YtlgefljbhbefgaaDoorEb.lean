/- PlicApart's body. -/
import Derived.Test.YtlgefljbhbefgaaDoorEa
set_option linter.unusedVariables false
set_option linter.unusedSimpArgs false
namespace Go.Proofs.YtlgefljbhbefgaaDoor
open Go.RowKit
attribute [local go_sem] Oper.semAt_some
/-- What stands in memory: a PLIC, and the act. -/
structure Ap (w0 w : World) (P X : Nat) (s : PS) (xs : Array Value) : Prop where
  p : Box w P 58 (plc s)
  x : Box w X 35 xs
  lp : w0.heap.size ≤ P
  bel : Below w0.heap.size w0 w
section
variable {w0 w w2 : World} {P Q X : Nat} {s t t' : PS} {xs : Array Value}
theorem Ap.put (h : Ap w0 w P X s xs) (hb : Box w2 P 58 (plc t)) (ho : Only P w w2) : Ap w0 w2 P X t xs := ⟨hb, h.x.only ho (box_ne h.x h.p (by decide)), h.lp, h.bel.trans (ho.below h.lp h.bel.size)⟩
theorem Ap.below (h : Ap w0 w P X s xs) (hb : Below w.heap.size w w2) : Ap w0 w2 P X s xs := ⟨h.p.over hb h.p.inHeap, h.x.over hb h.x.inHeap, h.lp, h.bel.trans (hb.mono h.bel.size)⟩
theorem Ap.drawn (h : Ap w0 w P X s xs) (n : Nat) : Ap w0 (w.drewN n) P X s xs := h.below (below_drawn (Below.refl _ _) n)
/-- .. and a copy of it. -/
structure Aq (w0 w : World) (P Q X : Nat) (s t : PS) (xs : Array Value) : Prop where
  a : Ap w0 w Q X t xs
  p : Box w P 58 (plc s)
  pq : P ≠ Q
theorem Aq.put (h : Aq w0 w P Q X s t xs) (hb : Box w2 Q 58 (plc t')) (ho : Only Q w w2) : Aq w0 w2 P Q X s t' xs := ⟨h.a.put hb ho, h.p.only ho h.pq, h.pq⟩
theorem Aq.below (h : Aq w0 w P Q X s t xs) (hb : Below w.heap.size w w2) : Aq w0 w2 P Q X s t xs := ⟨h.a.below hb, h.p.over hb h.p.inHeap, h.pq⟩
end
set_option maxRecDepth 100000 in
theorem apart_long (a : Option Addr) (len cap : Nat) (h : 40 < len) (k : Nat) (n : Int) (hi : Bool) (off v : Nat) (wd : Int) (o : Nat) (w : World) : Calls Tryd.prog 5 #[.slice a len cap, .agg (acs k n hi off v wd), .int .u8 o] w (Yes w) := by
  have T0 : Hid (Below w.heap.size w (w.alloc (.cells (acs k n hi off v wd) 35))) := Lib.hid ((Below.refl _ _).alloc (Nat.le_refl _) _)
  go_enter Tryd.func5, Tryd.ntmps5
  go_wp2_with (go_at_call 7; refine (works_any _).mono ?_; rintro e w' ⟨rfl, bel⟩)
  go_ret
  exact ⟨rfl, T0.out.trans (bel.mono T0.out.size)⟩
theorem word_to {s : PS} (ok : s.ok) (k : Nat) (h1 : 1 ≤ k) (h7 : k ≤ 7) (w : World) : Calls Tryd.prog 19 #[.string (st (textL s)), .int .i64 k] w fun e w' => e = .returned (.string (st (wordL s k))) ∧ w = w' := by
  obtain ⟨rest, hr, hc⟩ := text_word ok k h1 h7
  refine word_any (k := k - 1) ?_ hc (wordL_no ok k) (textL s) hr (by have := textL_len s; omega) k (by omega) (by omega)
  by_cases h : srcsL s (k - 1) = []
  · exact .inl h
  · exact .inr (srcs_end s _ h)
theorem wr_pr (s : PS) (n v : Nat) (h1 : 1 ≤ n) (h8 : n < 8) : s.wr (4 * n) v = s.setPr n v := by
  have e : 4 * n / 4 = n := by omega
  rw [PS.wr, e, if_pos ⟨h1, h8⟩]
theorem rd_pr (s : PS) (n : Nat) (h1 : 1 ≤ n) (h8 : n < 8) : s.rd (4 * n) = (s.pr n, s) := by
  have e : 4 * n / 4 = n := by omega
  rw [PS.rd, e, if_pos ⟨h1, h8⟩]
theorem isReg_pr (n : Nat) (h8 : n < 8) : isReg (4 * n) 4 = true := decide_eq_true ⟨rfl, by omega, by omega⟩
theorem and_u64n (a b : Nat) (ha : a < 18446744073709551616) (hb : b < 18446744073709551616) : bits .and .u64 (a : Int) (b : Int) = ((a &&& b : Nat) : Int) := by
  have := bits_and_u64_nat a b ha hb
  exact this
theorem and254n (v : Nat) (h : v < 18446744073709551616) : bits .and .u64 (v : Int) 254 = ((v % 256 - v % 2 : Nat) : Int) := by
  have h1 : ∀ x : Nat, x < 256 → x &&& 254 = x - x % 2 := by decide +kernel
  rw [show (254 : Int) = ((254 : Nat) : Int) from rfl, and_u64n v 254 h (by decide), show (254 : Nat) = 255 &&& 254 from by decide, ← Nat.and_assoc, show (255 : Nat) = 2 ^ 8 - 1 from rfl, Nat.and_two_pow_sub_one_eq_mod]
  rw [h1 _ (Nat.mod_lt _ (by decide))]
  have : v % 2 ^ 8 % 2 = v % 2 := by omega
  rw [this]
/-- What becomes of the copy. -/
def cp1 (s : PS) (n : Nat) (hi : Bool) (v : Nat) : PS := (s.raise n hi).setPr n (v % 4294967296)
def cp2 (s : PS) (n : Nat) (hi : Bool) (v : Nat) : PS := (cp1 s n hi v).setEn 0 (v % 4294967296)
def cp3 (s : PS) (n : Nat) (hi : Bool) (v : Nat) : PS := (cp2 s n hi v).setTh 1 (v % 4294967296)
theorem cp1_ok {s : PS} (h : s.ok) {n : Nat} (hn : 1 ≤ n) (hi : Bool) (v : Nat) : (cp1 s n hi v).ok := (h.raise hn hi).setPr hn _
theorem cp2_ok {s : PS} (h : s.ok) {n : Nat} (hn : 1 ≤ n) (hi : Bool) (v : Nat) : (cp2 s n hi v).ok := (cp1_ok h hn hi v).setEn _ _
theorem cp3_ok {s : PS} (h : s.ok) {n : Nat} (hn : 1 ≤ n) (hi : Bool) (v : Nat) : (cp3 s n hi v).ok := (cp2_ok h hn hi v).setTh _ _
theorem cp1_pr (s : PS) (n : Nat) (hi : Bool) (v : Nat) : (cp1 s n hi v).pr n = v % 8 := by
  show upd (s.raise n hi).pr n (v % 4294967296 % 8) n = _
  rw [upd_at]; omega
theorem cp2_en (s : PS) (n : Nat) (hi : Bool) (v : Nat) : (cp2 s n hi v).en 0 = v % 256 - v % 2 := by
  show upd (cp1 s n hi v).en 0 (v % 4294967296 % 256 - v % 4294967296 % 2) 0 = _
  rw [upd_at]; omega
theorem cp3_th (s : PS) (n : Nat) (hi : Bool) (v : Nat) : (cp3 s n hi v).th 1 = v % 8 := by
  show upd (cp2 s n hi v).th 1 (v % 4294967296 % 8) 1 = _
  rw [upd_at]; omega
theorem cp_word (s : PS) (n k : Nat) (hi : Bool) (v : Nat) (h : n ≠ k) : wordL (cp1 s n hi v) k = wordL s k ∧ wordL (cp3 s n hi v) k = wordL s k := by
  have e1 : (cp1 s n hi v).pr k = s.pr k := upd_ne _ _ (Ne.symm h)
  have e2 : (cp1 s n hi v).hi k = s.hi k := upd_ne _ _ (Ne.symm h)
  have e3 : (cp1 s n hi v).pe k = s.pe k := by
    show (if hi = true ∧ s.se n = false then upd s.pe n true else s.pe) k = s.pe k
    split
    · exact upd_ne _ _ (Ne.symm h)
    · rfl
  have e4 : (cp1 s n hi v).se k = s.se k := rfl
  have g : ∀ t : PS, t.pr k = s.pr k → t.hi k = s.hi k → t.pe k = s.pe k → t.se k = s.se k → wordL t k = wordL s k := fun t a b c d => by
    unfold wordL
    rw [a, b, c, d]
  exact ⟨g _ e1 e2 e3 e4, g _ e1 e2 e3 e4⟩
section
variable {w : World} {P : Nat} {s : PS}
theorem write_z (h : Box w P 58 (plc s)) (ok : s.ok) (z : Int) (off v : Nat) (hz : z = off) (hv : v < 18446744073709551616) (hr : isReg off 4 = true) (t : PS) (ht : s.wr off (v % 4294967296) = t) : Calls Tryd.prog 18 #[.pointer (some ⟨P, 0, none⟩), .int .u64 z, .int .u64 v, .int .i64 4] w fun e w' => e = .returned (.bool true) ∧ Box w' P 58 (plc t) ∧ Only P w w' := by
  subst hz ht
  exact write_any h ok off v hv hr
theorem read_zz (h : Box w P 58 (plc s)) (ok : s.ok) (off : Nat) (x : Int) (hr : isReg off 4 = true) (ht : (s.rd off).2 = s) (hx : ((s.rd off).1 : Int) = x) : Calls Tryd.prog 17 #[.pointer (some ⟨P, 0, none⟩), .int .u64 off, .int .i64 4] w fun e w' => e = .returned (.tuple #[.int .u64 x, .bool true]) ∧ Box w' P 58 (plc s) ∧ Only P w w' := by
  have := read_any h ok off hr
  rw [ht, hx] at this
  exact this
theorem read_z (h : Box w P 58 (plc s)) (ok : s.ok) (z : Int) (off x : Nat) (hz : z = off) (hr : isReg off 4 = true) (ht : s.rd off = (x, s)) : Calls Tryd.prog 17 #[.pointer (some ⟨P, 0, none⟩), .int .u64 z, .int .i64 4] w fun e w' => e = .returned (.tuple #[.int .u64 x, .bool true]) ∧ Box w' P 58 (plc s) ∧ Only P w w' := by
  have := read_any h ok off hr
  subst hz
  rw [ht] at this
  exact this
end
set_option maxHeartbeats 16000000 in
set_option maxRecDepth 100000 in
theorem apart_all (a : Option Addr) (len cap : Nat) (l : List Deed) (hl : len ≤ 40) (kk : Nat) (nn : Int) (hn1 : -9223372036854775808 ≤ nn) (hn2 : nn ≤ 9223372036854775807) (hi : Bool) (off v : Nat) (hv : v < 18446744073709551616) (wd : Int) (oth : Nat) (ho : oth < 256) (w : World) (hf : IsDeeds w a len l) (htz : Tz16 w) : Calls Tryd.prog 5 #[.slice a len cap, .agg (acs kk nn hi off v wd), .int .u8 oth] w (Yes w) := by
  have HL := Lib.hid hf.1
  have LA := Lib.hid fun wx bel => hf.later (wx := wx) bel
  have HTZ := Lib.hid htz
  have H0 : Hid (Ap w ((w.alloc (.cells (acs kk nn hi off v wd) 35)).alloc (.cells (plc .zero) 58)) (w.heap.size + 1) w.heap.size .zero (acs kk nn hi off v wd)) := Lib.hid (by
    have e1 : (w.alloc (.cells (acs kk nn hi off v wd) 35)).heap.size = w.heap.size + 1 := by simp
    exact ⟨e1 ▸ Box.made _ _ _, (Box.made _ _ _).more _, Nat.le_succ _, ((Below.refl _ _).alloc (Nat.le_refl _) _).alloc (by omega) _⟩)
  clear hf htz
  have e1 : (w.alloc (.cells (acs kk nn hi off v wd) 35)).heap.size = w.heap.size + 1 := by simp
  go_enter Tryd.func5, Tryd.ntmps5
  go_wp2_with (go_at_call 8; refine (new_any _).mono ?_; rintro e w1 ⟨rfl, rfl⟩)
  generalize ((w.alloc (.cells (acs kk nn hi off v wd) 35)).alloc (.cells (plc .zero) 58)) = w1 at H0 ⊢
  clear e1
  generalize w.heap.size + 1 = P at H0 ⊢
  obtain ⟨X, hX⟩ : ∃ X, X = w.heap.size := ⟨_, rfl⟩
  have HXX := Lib.hid hX
  rw [← hX] at H0 ⊢
  clear hX
  have hl' : ¬ (40 : Int) < (len : Int) := by omega
  go_loopw [8] (fun i wr => ∃ (k : Nat) (s : PS), k ≤ len ∧ i = .int .i64 k ∧ Ap w wr P X s (acs kk nn hi off v wd) ∧ s.ok2) (fun i _ => len - (intOf i).toNat)
  case atStart => exact ⟨0, .zero, Nat.zero_le _, rfl, H0.out, PS.zero_ok2⟩
  case round =>
    obtain ⟨k, s, hk, rfl, hA, hok⟩ := hrel
    clear H0
    have HA := Lib.hid hA
    have HK := Lib.hid hok
    have hbel := hA.bel
    clear hA hok
    have k1 : (0 : Int) ≤ (k : Int) := Int.natCast_nonneg _
    by_cases hlt : k < len
    · obtain ⟨⟨what, N, hi1, off1, v1, wd1⟩, hk2⟩ : ∃ f, l[k]? = some f := ⟨_, List.getElem?_eq_getElem (by rw [HL.out]; exact hlt)⟩
      obtain ⟨b, bo, rfl, hbb, d0, d1, d2, d3, d4, d5, hw8, ho64, hv64, hN63⟩ := (LA.out wr hbel).2 k ⟨what, N, hi1, off1, v1, wd1⟩ hk2
      simp only at d0 d1 d2 d3 d4 d5 hw8 ho64 hv64 hN63
      have c0 : ∀ j, (wr.drewN j).cell? ⟨b, bo + k * 6, none⟩ = some (.int .u8 what) := fun j => d0
      have c1 : ∀ j, (wr.drewN j).cell? ⟨b, bo + k * 6 + 1, none⟩ = some (.int .i64 N) := fun j => d1
      have c2 : ∀ j, (wr.drewN j).cell? ⟨b, bo + k * 6 + 2, none⟩ = some (.bool hi1) := fun j => d2
      have c3 : ∀ j, (wr.drewN j).cell? ⟨b, bo + k * 6 + 3, none⟩ = some (.int .u64 off1) := fun j => d3
      have c4 : ∀ j, (wr.drewN j).cell? ⟨b, bo + k * 6 + 4, none⟩ = some (.int .u64 v1) := fun j => d4
      have c5 : ∀ j, (wr.drewN j).cell? ⟨b, bo + k * 6 + 5, none⟩ = some (.int .i64 wd1) := fun j => d5
      clear hbb hk2 hbel d1 d2 d3 d4 d5
      have k2 : (k : Int) < (len : Int) := by omega
      have hr1 : (what : Int) % 13 = ((what % 13 : Nat) : Int) := rfl
      have hr2 : (what : Int).tmod 13 = ((what % 13 : Nat) : Int) := rfl
      generalize what % 13 = r at hr1 hr2
      by_cases h3 : r < 3
      · have r3 : (r : Int) < 3 := by omega
        clear h3
        go_wp2
        refine wp_region_quiet_at 11 (by kernel_rfl) (by kernel_rfl) (by kernel_rfl) (by kernel_rfl) ?_
        simp only [List.take_succ_cons, List.take_zero, List.drop_succ_cons, List.drop_zero]
        repeat (go_big_quiet_step (fail))
        refine wpQuiet_nil ?_
        intro w9 hw9
        obtain ⟨nq, hw9⟩ := hw9
        subst hw9
        have H9 := Lib.hid (HA.out.drawn nq)
        clear c0 c1 c2 c3 c4 c5 HA
        generalize wr.drewN nq = w3 at H9 ⊢
        go_wp2_with (go_at_call 10; refine (raise_ev H9.out.p N hN63 hi1).mono ?_; rintro e w4 ⟨rfl, hb4, ho4⟩; have H4 := Lib.hid (H9.out.put hb4 ho4); clear hb4 ho4)
        go_roundw
        case rel => exact ⟨k + 1, _, by omega, by go_num, H4.out, HK.out.raiseI _ _⟩
        case measure => simp [intOf]; omega
      · have r3 : ¬ (r : Int) < 3 := by omega
        clear h3
        by_cases h7 : r < 7
        · have r7 : (r : Int) < 7 := by omega
          clear h7
          go_wp2
          refine wp_region_quiet_at 11 (by kernel_rfl) (by kernel_rfl) (by kernel_rfl) (by kernel_rfl) ?_
          simp only [List.take_succ_cons, List.take_zero, List.drop_succ_cons, List.drop_zero]
          repeat (go_big_quiet_step (fail))
          refine wpQuiet_nil ?_
          intro w9 hw9
          obtain ⟨nq, hw9⟩ := hw9
          subst hw9
          have H9 := Lib.hid (HA.out.drawn nq)
          clear c0 c1 c2 c3 c4 c5 HA
          generalize wr.drewN nq = w3 at H9 ⊢
          go_wp2_with (go_at_call 17; refine (read_ev H9.out.p HK.out.ok off1 wd1).mono ?_; rintro e w4 ⟨rfl, hb4, ho4⟩; have H4 := Lib.hid (H9.out.put hb4 ho4); clear hb4 ho4)
          go_roundw
          case rel => exact ⟨k + 1, _, by omega, by go_num, H4.out, HK.out.rdI _ _⟩
          case measure => simp [intOf]; omega
        · have r7 : ¬ (r : Int) < 7 := by omega
          clear h7
          go_wp2
          refine wp_region_quiet_at 16 (by kernel_rfl) (by kernel_rfl) (by kernel_rfl) (by kernel_rfl) ?_
          simp only [List.take_succ_cons, List.take_zero, List.drop_succ_cons, List.drop_zero]
          repeat (go_big_quiet_step (fail))
          refine wpQuiet_nil ?_
          intro w9 hw9
          obtain ⟨nq, hw9⟩ := hw9
          subst hw9
          have H9 := Lib.hid (HA.out.drawn nq)
          clear c0 c1 c2 c3 c4 c5 HA
          generalize wr.drewN nq = w3 at H9 ⊢
          go_wp2_with (go_at_call 18; refine (write_ev H9.out.p HK.out.ok off1 v1 hv64 wd1).mono ?_; rintro e w4 ⟨rfl, hb4, ho4⟩; have H4 := Lib.hid (H9.out.put hb4 ho4); clear hb4 ho4)
          go_roundw
          case rel => exact ⟨k + 1, _, by omega, by go_num, H4.out, HK.out.wrI _ _ _⟩
          case measure => simp [intOf]; omega
    · obtain rfl : k = len := by omega
      clear hlt hbel
      have x1 := HA.out.x.read 1
      have x2 := HA.out.x.read 2
      have x4 := HA.out.x.read 4
      simp only [List.getElem?_toArray, List.getElem?_cons_zero, List.getElem?_cons_succ] at x1 x2 x4
      obtain ⟨u, hu, hu64⟩ : ∃ u : Nat, IntKind.u64.wrap nn = (u : Int) ∧ u < 18446744073709551616 := ⟨(IntKind.u64.wrap nn).toNat, by rw [IntKind.wrap_u64]; omega, by rw [IntKind.wrap_u64]; omega⟩
      have hq1 : (u : Int) % 7 = ((u % 7 : Nat) : Int) := rfl
      have hq2 : (u : Int).tmod 7 = ((u % 7 : Nat) : Int) := rfl
      have hq7 : u % 7 < 7 := Nat.mod_lt _ (by decide)
      generalize u % 7 = m at hq1 hq2 hq7
      have hp1 : (oth : Int) % 7 = ((oth % 7 : Nat) : Int) := rfl
      have hp2 : (oth : Int).tmod 7 = ((oth % 7 : Nat) : Int) := rfl
      have hp7 : oth % 7 < 7 := Nat.mod_lt _ (by decide)
      generalize oth % 7 = m2 at hp1 hp2 hp7
      have hw1 := wrap8 m (by omega)
      have hw2 := wrap8 m2 (by omega)
      have m1 : (m : Int) < 7 := by omega
      have m3 : (m2 : Int) < 7 := by omega
      have m4 : (0 : Int) ≤ (m : Int) := Int.natCast_nonneg _
      have m5 : (0 : Int) ≤ (m2 : Int) := Int.natCast_nonneg _
      go_wp2_with fail
      refine (copy_any HA.out.p).mono ?_
      rintro e w2 ⟨rfl, hb, hbl⟩
      obtain ⟨Q, hQ⟩ : ∃ Q, Q = wr.heap.size := ⟨_, rfl⟩
      have HQ : Hid (Aq w w2 P Q X s s (acs kk nn hi off v wd)) := Lib.hid (by
        have hPQ : P ≠ Q := fun e => by have := HA.out.p.inHeap; omega
        have hwQ : w.heap.size ≤ Q := by have := HA.out.bel.size; omega
        exact ⟨⟨hQ ▸ hb, HA.out.x.over hbl HA.out.x.inHeap, hwQ, HA.out.bel.trans (hbl.mono HA.out.bel.size)⟩, HA.out.p.over hbl HA.out.p.inHeap, hPQ⟩)
      rw [← hQ]
      clear hb hbl HA hQ x1 x2 x4
      obtain ⟨n, hn⟩ : ∃ n : Nat, n = 1 + m := ⟨_, rfl⟩
      have hz1 : (1 : Int) + (m : Int) = (n : Int) := by omega
      obtain ⟨n2, hn2⟩ : ∃ n : Nat, n = 1 + m2 := ⟨_, rfl⟩
      have hz2 : (1 : Int) + (m2 : Int) = (n2 : Int) := by omega
      rw [hz1, hz2]
      have a1 : 1 ≤ n := by omega
      have a8 : n < 8 := by omega
      have b1 : 1 ≤ n2 := by omega
      have b8 : n2 ≤ 7 := by omega
      clear hz1 hz2 hn hn2 hq1 hq2 hq7 hp1 hp2 hp7 hw1 hw2 m1 m3 m4 m5 hu hu64
      have LX : Hid (∀ W, Box W X 35 (acs kk nn hi off v wd) → W.cell? ⟨X, 2, none⟩ = some (.bool hi) ∧ W.cell? ⟨X, 4, none⟩ = some (.int .u64 v)) := Lib.hid fun W hx => ⟨hx.read 2, hx.read 4⟩
      obtain ⟨x2, x4⟩ := LX.out _ HQ.out.a.x
      go_wp2_with fail
      refine (raise_yes HQ.out.a.p n a1 a8 hi).mono ?_
      rintro e w3 ⟨rfl, hb, hoo⟩
      have H3 := Lib.hid (HQ.out.put hb hoo)
      clear hb hoo x2 x4 HQ
      obtain ⟨x2, x4⟩ := LX.out _ H3.out.a.x
      have n64 : (n : Int) < 8 := by omega
      have n0 : (0 : Int) ≤ (n : Int) := by omega
      go_wp2_with fail
      refine (write_z H3.out.a.p (HK.out.ok.raise a1 hi) _ (4 * n) v (by omega) hv (isReg_pr n a8) (cp1 s n hi v) (wr_pr _ n _ a1 a8)).mono ?_
      rintro e w4 ⟨rfl, hb, hoo⟩
      have H4 := Lib.hid (H3.out.put hb hoo)
      clear hb hoo x2 x4 H3
      obtain ⟨x2, x4⟩ := LX.out _ H4.out.a.x
      go_wp2_with fail
      have hrd : (cp1 s n hi v).rd (4 * n) = (v % 8, cp1 s n hi v) := by rw [rd_pr _ n a1 a8, cp1_pr]
      refine (read_z H4.out.a.p (cp1_ok HK.out.ok a1 hi v) _ (4 * n) (v % 8) (by omega) (isReg_pr n a8) hrd).mono ?_
      rintro e w5 ⟨rfl, hb, hoo⟩
      have H5 := Lib.hid (H4.out.put hb hoo)
      clear hb hoo x2 x4 H4 hrd
      obtain ⟨x2, x4⟩ := LX.out _ H5.out.a.x
      go_wp2_with fail
      refine (text_any H5.out.p HK.out.ok (HTZ.out.later H5.out.a.bel)).mono ?_
      rintro e w6 ⟨rfl, hbl⟩
      have H6 := Lib.hid (H5.out.below hbl)
      clear hbl x2 x4 H5
      go_wp2_with fail
      refine (word_to HK.out.ok n2 b1 b8 _).mono ?_
      rintro e w7 ⟨rfl, rfl⟩
      go_wp2_with fail
      refine (text_any H6.out.a.p (cp1_ok HK.out.ok a1 hi v) (HTZ.out.later H6.out.a.bel)).mono ?_
      rintro e w7 ⟨rfl, hbl⟩
      have H7 := Lib.hid (H6.out.below hbl)
      clear hbl H6
      go_wp2_with fail
      refine (word_to (cp1_ok HK.out.ok a1 hi v) n2 b1 b8 _).mono ?_
      rintro e w8 ⟨rfl, rfl⟩
      dsimp only
      obtain ⟨x2, x4⟩ := LX.out _ H7.out.a.x
      obtain ⟨y, hv1⟩ : ∃ y : Int, (v : Int) % 8 = y := ⟨_, rfl⟩
      have hv2 : (v : Int).tmod 8 = y := hv1
      have HY := Lib.hid hv1
      have y0 : 0 ≤ y := by omega
      have y8 : y < 8 := by omega
      rw [hv1]
      have yy : (y != y) = false := bne_self_eq_false _
      have hne : ((st (wordL s n2)).toList == []) = false := by rw [st_list]; rfl
      have hn63 : ((n : Int) != (n : Int)) = false := bne_self_eq_false _
      by_cases hnk : n = n2
      · subst hnk
        go_wp2_with fail
        refine (write_z H7.out.a.p (cp1_ok HK.out.ok a1 hi v) 8192 8192 v rfl hv rfl (cp2 s n hi v) rfl).mono ?_
        rintro e w8 ⟨rfl, hb, hoo⟩
        have H8 := Lib.hid (H7.out.put hb hoo)
        clear hb hoo x2 x4 H7
        obtain ⟨x2, x4⟩ := LX.out _ H8.out.a.x
        go_wp2_with fail
        obtain ⟨z, hz, hzz⟩ : ∃ z : Int, (((cp2 s n hi v).rd 8192).1 : Int) = z ∧ bits .and .u64 (v : Int) 254 = z := ⟨_, rfl, by rw [and254n v hv, ← cp2_en s n hi v]; rfl⟩
        refine (read_zz H8.out.a.p (cp2_ok HK.out.ok a1 hi v) 8192 z rfl rfl hz).mono ?_
        rintro e w9 ⟨rfl, hb, hoo⟩
        have H9 := Lib.hid (H8.out.put hb hoo)
        clear hb hoo x2 x4 H8 hz
        obtain ⟨x2, x4⟩ := LX.out _ H9.out.a.x
        go_wp2_with fail
        refine (write_z H9.out.a.p (cp2_ok HK.out.ok a1 hi v) 2101248 2101248 v rfl hv rfl (cp3 s n hi v) rfl).mono ?_
        rintro e w10 ⟨rfl, hb, hoo⟩
        have H10 := Lib.hid (H9.out.put hb hoo)
        clear hb hoo x2 x4 H9
        obtain ⟨x2, x4⟩ := LX.out _ H10.out.a.x
        go_wp2_with fail
        have hth : (((cp3 s n hi v).rd 2101248).1 : Int) = y := by
          rw [← HY.out, show ((cp3 s n hi v).rd 2101248).1 = (cp3 s n hi v).th 1 from rfl, cp3_th]
          rfl
        refine (read_zz H10.out.a.p (cp3_ok HK.out.ok a1 hi v) 2101248 y rfl rfl hth).mono ?_
        rintro e w11 ⟨rfl, hb, hoo⟩
        have H11 := Lib.hid (H10.out.put hb hoo)
        clear hb hoo x2 x4 H10 hth
        obtain ⟨x2, x4⟩ := LX.out _ H11.out.a.x
        go_wp2_with (go_at_call 7; refine (works_any _).mono ?_; rintro e w12 ⟨rfl, bel⟩)
        go_ret
        exact ⟨rfl, H11.out.a.bel.trans (bel.mono H11.out.a.bel.size)⟩
      · have hw12 := (cp_word s n n2 hi v hnk).1
        rw [hw12]
        have hnn : ((n : Int) != (n2 : Int)) = true := bne_iff_ne.2 (by omega)
        have haa : ((st (wordL s n2)).toList != (st (wordL s n2)).toList) = false := bne_self_eq_false _
        go_wp2_with fail
        refine (write_z H7.out.a.p (cp1_ok HK.out.ok a1 hi v) 8192 8192 v rfl hv rfl (cp2 s n hi v) rfl).mono ?_
        rintro e w8 ⟨rfl, hb, hoo⟩
        have H8 := Lib.hid (H7.out.put hb hoo)
        clear hb hoo x2 x4 H7
        obtain ⟨x2, x4⟩ := LX.out _ H8.out.a.x
        go_wp2_with fail
        obtain ⟨z, hz, hzz⟩ : ∃ z : Int, (((cp2 s n hi v).rd 8192).1 : Int) = z ∧ bits .and .u64 (v : Int) 254 = z := ⟨_, rfl, by rw [and254n v hv, ← cp2_en s n hi v]; rfl⟩
        refine (read_zz H8.out.a.p (cp2_ok HK.out.ok a1 hi v) 8192 z rfl rfl hz).mono ?_
        rintro e w9 ⟨rfl, hb, hoo⟩
        have H9 := Lib.hid (H8.out.put hb hoo)
        clear hb hoo x2 x4 H8 hz
        obtain ⟨x2, x4⟩ := LX.out _ H9.out.a.x
        go_wp2_with fail
        refine (write_z H9.out.a.p (cp2_ok HK.out.ok a1 hi v) 2101248 2101248 v rfl hv rfl (cp3 s n hi v) rfl).mono ?_
        rintro e w10 ⟨rfl, hb, hoo⟩
        have H10 := Lib.hid (H9.out.put hb hoo)
        clear hb hoo x2 x4 H9
        obtain ⟨x2, x4⟩ := LX.out _ H10.out.a.x
        go_wp2_with fail
        have hth : (((cp3 s n hi v).rd 2101248).1 : Int) = y := by
          rw [← HY.out, show ((cp3 s n hi v).rd 2101248).1 = (cp3 s n hi v).th 1 from rfl, cp3_th]
          rfl
        refine (read_zz H10.out.a.p (cp3_ok HK.out.ok a1 hi v) 2101248 y rfl rfl hth).mono ?_
        rintro e w11 ⟨rfl, hb, hoo⟩
        have H11 := Lib.hid (H10.out.put hb hoo)
        clear hb hoo x2 x4 H10 hth
        obtain ⟨x2, x4⟩ := LX.out _ H11.out.a.x
        have hnq : ((n : Int) == (n2 : Int)) = false := beq_eq_false_iff_ne.2 (by omega)
        have hq3 := (cp_word s n n2 hi v hnk).2
        go_wp2_with fail
        refine (text_any H11.out.a.p (cp3_ok HK.out.ok a1 hi v) (HTZ.out.later H11.out.a.bel)).mono ?_
        rintro e w12 ⟨rfl, hbl⟩
        have H12 := Lib.hid (H11.out.below hbl)
        clear hbl x2 x4 H11
        go_wp2_with fail
        refine (word_to (cp3_ok HK.out.ok a1 hi v) n2 b1 b8 _).mono ?_
        rintro e w13 ⟨rfl, rfl⟩
        rw [hq3]
        go_wp2_with (go_at_call 7; refine (works_any _).mono ?_; rintro e w13 ⟨rfl, bel⟩)
        go_ret
        exact ⟨rfl, H12.out.a.bel.trans (bel.mono H12.out.a.bel.size)⟩
end Go.Proofs.YtlgefljbhbefgaaDoor
