/- UartOrder's body. -/
import Derived.Test.YtagcmajiomhbdaaG
set_option linter.unusedVariables false
set_option linter.unusedSimpArgs false
namespace Go.Proofs.Ytagcmajiomhbdaa
open Go.RowKit
/-- How things stand behind some deeds. -/
structure St (w wr : World) (B : Nat) (s : US) (R T : List UInt8) (k : Nat) (K : Nat → Prop) : Prop where
  ua : Ua wr B s K
  hK : ∀ b, K b → w.heap.size ≤ b ∧ b < wr.heap.size
  bel : Below w.heap.size w wr
  lcr : s.lcr = 0
  n1 : R.length + s.q.length ≤ k
  n2 : T.length + s.out.length ≤ k
theorem Wr.ofRead {K : Nat → Prop} {B : Nat} {s' : US} {w w' : World} (hu : Ua w' B s' K) (ht : Touch K w w') : Wr K B s' w w' := ⟨hu.mono fun b hb => .inl hb, ht⟩
section
variable {w wr w2 : World} {B : Nat} {s s' : US} {R T : List UInt8} {k : Nat} {K : Nat → Prop}
theorem St.more (h : St w wr B s R T k K) (o : Obj) : St w (wr.alloc o) B s R T k K := ⟨h.ua.more o, fun b hb => ⟨(h.hK b hb).1, by have := (h.hK b hb).2; simp; omega⟩, h.bel.alloc h.bel.size o, h.lcr, h.n1, h.n2⟩
theorem St.wrote (h : St w wr B s R T k K) (hw : Wr K B s' wr w2) (hl : s'.lcr = 0) {R' T' : List UInt8} (n1 : R'.length + s'.q.length ≤ k + 1) (n2 : T'.length + s'.out.length ≤ k + 1) : St w w2 B s' R' T' (k + 1) (grew K wr w2) :=
  ⟨hw.1, fun b hb => by
    have hs := hw.2.size
    have hb2 := h.bel.size
    rcases hb with hb | hb
    · have := h.hK b hb; omega
    · omega, h.bel.trans (hw.2.below (fun b hb => (h.hK b hb).1) h.bel.size), hl, n1, n2⟩
theorem St.succ (h : St w wr B s R T k K) : St w wr B s R T (k + 1) K := ⟨h.ua, h.hK, h.bel, h.lcr, by have := h.n1; omega, by have := h.n2; omega⟩
/-- A read that takes nothing out of the queue. -/
theorem Rd_same (hl : s.lcr = 0) (off : Nat) (v : Int) (h : ¬ (off = 0 ∧ v = 1 ∧ s.q ≠ [])) : (s.Rd off v).q = s.q ∧ (s.Rd off v).out = s.out ∧ (s.Rd off v).lcr = 0 := by
  unfold US.Rd
  split
  · rename_i hg
    unfold US.rd
    split
    · split
      · exact ⟨rfl, rfl, hl⟩
      · have : s.q = [] := by
          by_cases hq : s.q = []
          · exact hq
          · exact absurd ⟨rfl, hg.2, hq⟩ h
        refine ⟨?_, rfl, hl⟩
        show s.q.tail = s.q
        rw [this]; rfl
    · exact ⟨rfl, rfl, hl⟩
    · exact ⟨rfl, rfl, hl⟩
    · exact ⟨rfl, rfl, hl⟩
  · exact ⟨rfl, rfl, hl⟩
theorem Wt_same (hl : s.lcr = 0) (off : Nat) (v : Int) (x : Nat) (h2 : off ≠ 2) (h3 : off ≠ 3) (h : ¬ (off = 0 ∧ v = 1)) : (s.Wt off v x).q = s.q ∧ (s.Wt off v x).out = s.out ∧ (s.Wt off v x).lcr = 0 := by
  unfold US.Wt
  split
  · rename_i hg
    unfold US.wr
    split
    · exact absurd ⟨rfl, hg.2⟩ h
    · split <;> exact ⟨rfl, rfl, hl⟩
    · exact absurd rfl h2
    · exact absurd rfl h3
    · exact ⟨rfl, rfl, hl⟩
    · exact ⟨rfl, rfl, hl⟩
    · exact ⟨rfl, rfl, hl⟩
  · exact ⟨rfl, rfl, hl⟩
end
theorem pre_to (x b r : List UInt8) (h : x = b ++ r) (hb : x.length ≤ 4611686018427387904) (w : World) : Calls Try.prog 22 #[.string (str x), .string (str b)] w fun e w' => e = .returned (.bool true) ∧ w = w' := by
  subst h
  exact prefix_any b r (by simpa using hb) w
theorem sub_to (x b r : List UInt8) (h : x = b ++ r) : ((str x).size : Int) - ((str b).size : Int) = (r.length : Int) := by
  subst h
  rw [str_size, str_size, List.length_append]; omega
theorem order_long (a : Option Addr) (len cap : Nat) (h : 120 < len) (w : World) : Calls Try.prog 5 #[.slice a len cap] w (Yes w) := by
  go_enter Try.func5, Try.ntmps5
  go_wp2_with (go_at_call 8; refine (awake_any _).mono ?_; rintro e w' ⟨rfl, bel⟩)
  go_ret
  exact ⟨rfl, bel⟩
set_option maxHeartbeats 12800000 in
set_option maxRecDepth 200000 in
theorem order_any (a : Option Addr) (len cap : Nat) (l : List Deed) (hl : len ≤ 120) (w : World) (hf : IsDeeds w a len l) : Calls Try.prog 5 #[.slice a len cap] w (Yes w) := by
  have HL := Lib.hid hf.1
  have LA := Lib.hid fun wx bel => hf.later (wx := wx) bel
  clear hf
  go_enter Try.func5, Try.ntmps5
  go_wp2_with (go_at_call 9; refine (new_any _).mono ?_; rintro e w1 ⟨rfl, rfl⟩)
  have hS : St w (w.alloc (.cells (uc .zero (.slice none 0 0) (.slice none 0 0)) 49)) w.heap.size .zero [] [] 0 (fun b => b = w.heap.size) := ⟨new_ua w rfl, fun b hb => by subst hb; simp, (Below.refl _ _).alloc (Nat.le_refl _) _, rfl, Nat.zero_le _, Nat.zero_le _⟩
  generalize (w.alloc (.cells (uc .zero (.slice none 0 0) (.slice none 0 0)) 49)) = w1 at hS ⊢
  obtain ⟨K0, hK0⟩ : ∃ K0 : Nat → Prop, K0 = (fun b => b = w.heap.size) := ⟨_, rfl⟩
  rw [← hK0] at hS
  clear hK0
  generalize hBe : w.heap.size = B at hS ⊢
  have HBe := Lib.hid hBe
  clear hBe
  go_loopw [4, 5, 6, 7, 8] (fun vi vr vs vt i wr => ∃ (k : Nat) (s : US) (R T : List UInt8) (K : Nat → Prop), k ≤ len ∧ i = .int .i64 k ∧ vi = .string (str (R ++ s.q)) ∧ vr = .string (str R) ∧ vs = .string (str (T ++ s.out)) ∧ vt = .string (str T) ∧ St w wr B s R T k K) (fun _ _ _ _ i _ => len - (intOf i).toNat)
  case atStart => exact ⟨0, .zero, [], [], K0, Nat.zero_le _, rfl, rfl, rfl, rfl, rfl, hS⟩
  case round =>
    obtain ⟨k, s, R, T, K, hk, rfl, rfl, rfl, rfl, rfl, hst⟩ := hrel
    clear hS
    have k1 : (0 : Int) ≤ (k : Int) := Int.natCast_nonneg _
    by_cases hlt : k < len
    · obtain ⟨f, hk2⟩ : ∃ f, l[k]? = some f := ⟨_, List.getElem?_eq_getElem (by rw [HL.out]; exact hlt)⟩
      obtain ⟨b, off, rfl, hbb, c0, c1, c2, c3, hn⟩ := (LA.out wr hst.bel).2 k f hk2
      have d0 : wr.cell? ⟨b, off + k * 4, none⟩ = some (.int .u8 f.k) := by rw [Nat.mul_comm]; exact c0
      have d1 : wr.cell? ⟨b, off + k * 4 + 1, none⟩ = some (.int .u64 f.off) := by rw [Nat.mul_comm]; exact c1
      have d2 : wr.cell? ⟨b, off + k * 4 + 2, none⟩ = some (.int .u64 f.v) := by rw [Nat.mul_comm]; exact c2
      have d3 : wr.cell? ⟨b, off + k * 4 + 3, none⟩ = some (.int .i64 f.wd) := by rw [Nat.mul_comm]; exact c3
      have k2 : (k : Int) < (len : Int) := by omega
      rcases f with ⟨what, of, x, wd⟩
      simp only at d0 d1 d2 d3 hn
      clear c0 c1 c2 c3 hk2 hbb
      have hA : Box (wr.alloc (.cells #[.int .u8 what, .int .u64 of, .int .u64 x, .int .i64 wd] 32)) wr.heap.size 32 #[.int .u8 what, .int .u64 of, .int .u64 x, .int .i64 wd] := Box.made _ _ _
      have HS := Lib.hid (hst.more (.cells #[.int .u8 what, .int .u64 of, .int .u64 x, .int .i64 wd] 32))
      have HAA := Lib.hid hA
      have HKA : Hid (¬ K wr.heap.size) := Lib.hid fun h => by have := (hst.hK _ h).2; omega
      have n1 := hst.n1
      have n2 := hst.n2
      clear hst hA
      have hr : (what : Int) % 9 = ((what % 9 : Nat) : Int) := by omega
      have hr9 : what % 9 < 9 := Nat.mod_lt _ (by decide)
      generalize what % 9 = r at hr hr9
      have hKA : ¬ K wr.heap.size := HKA.out
      have hr8 : r = 8 ∨ (r = 6 ∨ r = 7) ∨ (r = 3 ∨ r = 4 ∨ r = 5) ∨ (r = 0 ∨ r = 1 ∨ r = 2) := by omega
      obtain ⟨c, hc0, hx⟩ : ∃ c : UInt8, c = UInt8.ofNat (x % 256) ∧ ((x : Int) % 256) = (c.toNat : Int) := ⟨UInt8.ofNat (x % 256), rfl, by rw [UInt8.toNat_ofNat']; omega⟩
      have HC0 := Lib.hid hc0
      clear hc0
      have hc := UInt8.toNat_lt c
      rcases hr8 with rfl | hr8 | hr8 | hr8
      · have e8 := str_app T s.out
        have e9 : ¬ 9223372036854775807 < (str T).size + (str s.out).size := by rw [str_size, str_size]; omega
        go_wp2_with (go_at_call 16; refine (Take_any HS.out.ua).mono ?_; rintro e w2 ⟨rfl, hz⟩; have HS2 : Hid (St w w2 B { s with out := [] } R (T ++ s.out) (k + 1) _) := Lib.hid (HS.out.wrote hz HS.out.lcr (by show R.length + s.q.length ≤ k + 1; omega) (by simp; omega)); clear hz)
        have n5 := sub_to (R ++ s.q) R s.q (by simp)
        have P1 := Lib.hid (fun wx => pre_to (R ++ s.q) R s.q (by simp) (by simp; omega) wx)
        have P2 := Lib.hid (fun wx => pre_to (T ++ s.out) (T ++ s.out) [] (by simp) (by simp; omega) wx)
        obtain ⟨o9, q9, hv9⟩ := HS2.out.ua
        have HV := Lib.hid hv9
        clear hv9
        go_wp2_with (first | (go_at_call 13; refine (waiting_any HV.out).mono ?_; rintro e w' ⟨rfl, rfl⟩) | (go_at_call 22; have hq9 := HQ9; clear hq9; refine (P2.out _).mono ?_; rintro e w' ⟨rfl, rfl⟩) | (go_at_call 22; refine (P1.out _).mono ?_; rintro e w' ⟨rfl, rfl⟩; have HQ9 := Lib.hid True.intro))
        go_roundw
        case rel => exact ⟨k + 1, _, R, (T ++ s.out), _, by omega, by go_num, by first | rfl | simp, rfl, by first | rfl | simp, rfl, HS2.out⟩
        case measure => simp [intOf]; omega
      · by_cases h16 : s.q.length = 16
        · have hb : ((s.q.length : Int) == 16) = true := beq_iff_eq.2 (by omega)
          obtain ⟨o8, q8, hv8⟩ := HS.out.ua
          have HV8 := Lib.hid hv8
          clear hv8
          have hi := input_any HS.out.ua c
          rw [decide_eq_false (by simp [h16])] at hi
          have hip : s.inp c = { s with ov := true } := if_pos h16
          rw [hip] at hi
          have HI := Lib.hid hi
          clear hi hip h16
          obtain rfl | rfl := hr8
          all_goals
            as_aux_lemma =>
              go_wp2_with (first | (go_at_call 19; refine HI.out.mono ?_; rintro e w2 ⟨rfl, hz⟩; have HS2 : Hid (St w w2 B { s with ov := true } R T (k + 1) _) := Lib.hid (HS.out.wrote hz HS.out.lcr (by show R.length + s.q.length ≤ k + 1; omega) (by show T.length + s.out.length ≤ k + 1; omega)); clear hz) | (go_at_call 13; refine (waiting_any HV8.out).mono ?_; rintro e w' ⟨rfl, rfl⟩))
              have n5 := sub_to (R ++ s.q) R s.q (by simp)
              have P1 := Lib.hid (fun wx => pre_to (R ++ s.q) R s.q (by simp) (by simp; omega) wx)
              have P2 := Lib.hid (fun wx => pre_to (T ++ s.out) T s.out (by simp) (by simp; omega) wx)
              obtain ⟨o9, q9, hv9⟩ := HS2.out.ua
              have HV := Lib.hid hv9
              clear hv9
              go_wp2_with (first | (go_at_call 13; refine (waiting_any HV.out).mono ?_; rintro e w' ⟨rfl, rfl⟩) | (go_at_call 22; have hq9 := HQ9; clear hq9; refine (P2.out _).mono ?_; rintro e w' ⟨rfl, rfl⟩) | (go_at_call 22; refine (P1.out _).mono ?_; rintro e w' ⟨rfl, rfl⟩; have HQ9 := Lib.hid True.intro))
              go_roundw
              case rel => exact ⟨k + 1, _, R, T, _, by omega, by go_num, by first | rfl | simp, rfl, by first | rfl | simp, rfl, HS2.out⟩
              case measure => simp [intOf]; omega
        · have hb : ((s.q.length : Int) == 16) = false := beq_eq_false_iff_ne.2 (by omega)
          obtain ⟨o8, q8, hv8⟩ := HS.out.ua
          have HV8 := Lib.hid hv8
          clear hv8
          have hi := input_any HS.out.ua c
          rw [decide_eq_true h16] at hi
          have hip : s.inp c = { s with q := s.q ++ [c] } := if_neg h16
          rw [hip] at hi
          have HI := Lib.hid hi
          have e1 := str_snoc (R ++ s.q) c
          have e9 : ¬ 9223372036854775807 < (str (R ++ s.q)).size + 1 := by rw [str_size]; simp; omega
          clear hi hip h16
          obtain rfl | rfl := hr8
          all_goals
            as_aux_lemma =>
              go_wp2_with (first | (go_at_call 19; refine HI.out.mono ?_; rintro e w2 ⟨rfl, hz⟩; have hA2 : Box w2 wr.heap.size 32 #[.int .u8 what, .int .u64 of, .int .u64 x, .int .i64 wd] := HAA.out.touch hz.2 HKA.out; have b1 : w2.cell? ⟨wr.heap.size, 1, none⟩ = some (.int .u64 of) := hA2.read 1; have b2 : w2.cell? ⟨wr.heap.size, 2, none⟩ = some (.int .u64 x) := hA2.read 2; have b3 : w2.cell? ⟨wr.heap.size, 3, none⟩ = some (.int .i64 wd) := hA2.read 3; have r1 := conv_one c w2; have HS2 : Hid (St w (w2.alloc (.cells #[.int .u8 c.toNat] 5)) B { s with q := s.q ++ [c] } R T (k + 1) _) := Lib.hid ((HS.out.wrote hz HS.out.lcr (by show R.length + (s.q ++ [c]).length ≤ k + 1; simp; omega) (by show T.length + s.out.length ≤ k + 1; omega)).more _); clear hz hA2) | (go_at_call 13; refine (waiting_any HV8.out).mono ?_; rintro e w' ⟨rfl, rfl⟩))
              have n5 := sub_to (R ++ (s.q ++ [c])) R (s.q ++ [c]) (by first | (simp; done) | (rw [HEQ.out]; simp))
              have P1 := Lib.hid (fun wx => pre_to (R ++ (s.q ++ [c])) R (s.q ++ [c]) (by first | (simp; done) | (rw [HEQ.out]; simp)) (by simp; omega) wx)
              have P2 := Lib.hid (fun wx => pre_to (T ++ s.out) T s.out (by simp) (by simp; omega) wx)
              obtain ⟨o9, q9, hv9⟩ := HS2.out.ua
              have HV := Lib.hid hv9
              clear hv9
              go_wp2_with (first | (go_at_call 13; refine (waiting_any HV.out).mono ?_; rintro e w' ⟨rfl, rfl⟩) | (go_at_call 22; have hq9 := HQ9; clear hq9; refine (P2.out _).mono ?_; rintro e w' ⟨rfl, rfl⟩) | (go_at_call 22; refine (P1.out _).mono ?_; rintro e w' ⟨rfl, rfl⟩; have HQ9 := Lib.hid True.intro))
              go_roundw
              case rel => exact ⟨k + 1, _, R, T, _, by omega, by go_num, by first | rfl | (simp; done) | (rw [HQO.out.1]) | (rw [HEQ.out]; simp), rfl, by first | rfl | (simp; done) | (rw [HQO.out.2.1]), rfl, HS2.out⟩
              case measure => simp [intOf]; omega
      · by_cases o2 : of = 2
        · subst o2
          obtain rfl | rfl | rfl := hr8
          all_goals
            as_aux_lemma =>
              go_wp2
              go_roundw
              case rel => exact ⟨k + 1, s, R, T, K, by omega, by go_num, rfl, rfl, rfl, rfl, HS.out.succ⟩
              case measure => simp [intOf]; omega
        · by_cases o3 : of = 3
          · subst o3
            obtain rfl | rfl | rfl := hr8
            all_goals
              as_aux_lemma =>
                go_wp2
                go_roundw
                case rel => exact ⟨k + 1, s, R, T, K, by omega, by go_num, rfl, rfl, rfl, rfl, HS.out.succ⟩
                case measure => simp [intOf]; omega
          · have hwr := Write_any HS.out.ua of wd x (by omega)
            have hof2 : ((of : Int) == 2) = false := beq_eq_false_iff_ne.2 (by omega)
            have hof3 : ((of : Int) == 3) = false := beq_eq_false_iff_ne.2 (by omega)
            by_cases hg : of = 0 ∧ wd = 1
            · obtain ⟨rfl, rfl⟩ := hg
              have e0 : okR 0 1 = true := by decide
              have e1 : s.Wt 0 1 x = { s with out := s.out ++ [c], dn := true } := by
                rw [HC0.out]
                show (if (0 : Nat) < 8 ∧ (1 : Int) = 1 then s.wr 0 _ else s) = _
                rw [if_pos (by decide)]
                exact if_neg (by have := HS.out.lcr; omega)
              rw [e0, e1] at hwr
              have HW := Lib.hid hwr
              have e2 := str_snoc (T ++ s.out) c
              have e9 : ¬ 9223372036854775807 < (str (T ++ s.out)).size + 1 := by rw [str_size]; simp; omega
              clear hwr e0 e1
              obtain rfl | rfl | rfl := hr8
              all_goals
                as_aux_lemma =>
                  go_wp2_with (go_at_call 18; refine HW.out.mono ?_; rintro e w2 ⟨rfl, hz⟩; have hA2 : Box w2 wr.heap.size 32 #[.int .u8 what, .int .u64 (0 : Nat), .int .u64 x, .int .i64 1] := HAA.out.touch hz.2 HKA.out; have b1 : w2.cell? ⟨wr.heap.size, 1, none⟩ = some (.int .u64 0) := hA2.read 1; have b2 : w2.cell? ⟨wr.heap.size, 2, none⟩ = some (.int .u64 x) := hA2.read 2; have b3 : w2.cell? ⟨wr.heap.size, 3, none⟩ = some (.int .i64 1) := hA2.read 3; have r1 := conv_one c w2; have HS2 : Hid (St w (w2.alloc (.cells #[.int .u8 c.toNat] 5)) B { s with out := s.out ++ [c], dn := true } R T (k + 1) _) := Lib.hid ((HS.out.wrote hz HS.out.lcr (by show R.length + s.q.length ≤ k + 1; omega) (by show T.length + (s.out ++ [c]).length ≤ k + 1; simp; omega)).more _); clear hz hA2)
                  have n5 := sub_to (R ++ s.q) R s.q (by first | (simp; done) | (rw [HEQ.out]; simp))
                  have P1 := Lib.hid (fun wx => pre_to (R ++ s.q) R s.q (by first | (simp; done) | (rw [HEQ.out]; simp)) (by simp; omega) wx)
                  have P2 := Lib.hid (fun wx => pre_to (T ++ (s.out ++ [c])) T (s.out ++ [c]) (by simp) (by simp; omega) wx)
                  obtain ⟨o9, q9, hv9⟩ := HS2.out.ua
                  have HV := Lib.hid hv9
                  clear hv9
                  go_wp2_with (first | (go_at_call 13; refine (waiting_any HV.out).mono ?_; rintro e w' ⟨rfl, rfl⟩) | (go_at_call 22; have hq9 := HQ9; clear hq9; refine (P2.out _).mono ?_; rintro e w' ⟨rfl, rfl⟩) | (go_at_call 22; refine (P1.out _).mono ?_; rintro e w' ⟨rfl, rfl⟩; have HQ9 := Lib.hid True.intro))
                  go_roundw
                  case rel => exact ⟨k + 1, _, R, T, _, by omega, by go_num, by first | rfl | (simp; done) | (rw [HQO.out.1]) | (rw [HEQ.out]; simp), rfl, by first | rfl | (simp; done) | (rw [HQO.out.2.1]), rfl, HS2.out⟩
                  case measure => simp [intOf]; omega
            · have hsm := Wt_same HS.out.lcr of wd x o2 o3 hg
              generalize s.Wt of wd x = s' at hwr hsm
              have HQO := Lib.hid hsm
              have hql : s'.q.length = s.q.length := by rw [hsm.1]
              by_cases hk : of < 8 ∧ wd = 1
              · rw [okR, decide_eq_true hk] at hwr
                have HW := Lib.hid hwr
                have hof : ((of : Int) == 0) = false := beq_eq_false_iff_ne.2 (by omega)
                clear hwr hsm hk hg
                obtain rfl | rfl | rfl := hr8
                all_goals
                  as_aux_lemma =>
                    go_wp2_with (go_at_call 18; refine HW.out.mono ?_; rintro e w2 ⟨rfl, hz⟩; have hA2 : Box w2 wr.heap.size 32 #[.int .u8 what, .int .u64 of, .int .u64 x, .int .i64 wd] := HAA.out.touch hz.2 HKA.out; have b1 : w2.cell? ⟨wr.heap.size, 1, none⟩ = some (.int .u64 of) := hA2.read 1; have b2 : w2.cell? ⟨wr.heap.size, 2, none⟩ = some (.int .u64 x) := hA2.read 2; have b3 : w2.cell? ⟨wr.heap.size, 3, none⟩ = some (.int .i64 wd) := hA2.read 3; have HS2 : Hid (St w w2 B s' R T (k + 1) _) := Lib.hid (HS.out.wrote hz HQO.out.2.2 (by rw [HQO.out.1]; omega) (by rw [HQO.out.2.1]; omega)); clear hz hA2)
                    have n5 := sub_to (R ++ s.q) R s.q (by first | (simp; done) | (rw [HEQ.out]; simp))
                    have P1 := Lib.hid (fun wx => pre_to (R ++ s.q) R s.q (by first | (simp; done) | (rw [HEQ.out]; simp)) (by simp; omega) wx)
                    have P2 := Lib.hid (fun wx => pre_to (T ++ s.out) T s.out (by simp) (by simp; omega) wx)
                    obtain ⟨o9, q9, hv9⟩ := HS2.out.ua
                    have HV := Lib.hid hv9
                    clear hv9
                    go_wp2_with (first | (go_at_call 13; refine (waiting_any HV.out).mono ?_; rintro e w' ⟨rfl, rfl⟩) | (go_at_call 22; have hq9 := HQ9; clear hq9; refine (P2.out _).mono ?_; rintro e w' ⟨rfl, rfl⟩) | (go_at_call 22; refine (P1.out _).mono ?_; rintro e w' ⟨rfl, rfl⟩; have HQ9 := Lib.hid True.intro))
                    go_roundw
                    case rel => exact ⟨k + 1, _, R, T, _, by omega, by go_num, by first | rfl | (simp; done) | (rw [HQO.out.1]) | (rw [HEQ.out]; simp), rfl, by first | rfl | (simp; done) | (rw [HQO.out.2.1]), rfl, HS2.out⟩
                    case measure => simp [intOf]; omega
              · rw [okR, decide_eq_false hk] at hwr
                have HW := Lib.hid hwr
                clear hwr hsm hk hg
                obtain rfl | rfl | rfl := hr8
                all_goals
                  as_aux_lemma =>
                    go_wp2_with (go_at_call 18; refine HW.out.mono ?_; rintro e w2 ⟨rfl, hz⟩; have hA2 : Box w2 wr.heap.size 32 #[.int .u8 what, .int .u64 of, .int .u64 x, .int .i64 wd] := HAA.out.touch hz.2 HKA.out; have b1 : w2.cell? ⟨wr.heap.size, 1, none⟩ = some (.int .u64 of) := hA2.read 1; have b2 : w2.cell? ⟨wr.heap.size, 2, none⟩ = some (.int .u64 x) := hA2.read 2; have b3 : w2.cell? ⟨wr.heap.size, 3, none⟩ = some (.int .i64 wd) := hA2.read 3; have HS2 : Hid (St w w2 B s' R T (k + 1) _) := Lib.hid (HS.out.wrote hz HQO.out.2.2 (by rw [HQO.out.1]; omega) (by rw [HQO.out.2.1]; omega)); clear hz hA2)
                    have n5 := sub_to (R ++ s.q) R s.q (by first | (simp; done) | (rw [HEQ.out]; simp))
                    have P1 := Lib.hid (fun wx => pre_to (R ++ s.q) R s.q (by first | (simp; done) | (rw [HEQ.out]; simp)) (by simp; omega) wx)
                    have P2 := Lib.hid (fun wx => pre_to (T ++ s.out) T s.out (by simp) (by simp; omega) wx)
                    obtain ⟨o9, q9, hv9⟩ := HS2.out.ua
                    have HV := Lib.hid hv9
                    clear hv9
                    go_wp2_with (first | (go_at_call 13; refine (waiting_any HV.out).mono ?_; rintro e w' ⟨rfl, rfl⟩) | (go_at_call 22; have hq9 := HQ9; clear hq9; refine (P2.out _).mono ?_; rintro e w' ⟨rfl, rfl⟩) | (go_at_call 22; refine (P1.out _).mono ?_; rintro e w' ⟨rfl, rfl⟩; have HQ9 := Lib.hid True.intro))
                    go_roundw
                    case rel => exact ⟨k + 1, _, R, T, _, by omega, by go_num, by first | rfl | (simp; done) | (rw [HQO.out.1]) | (rw [HEQ.out]; simp), rfl, by first | rfl | (simp; done) | (rw [HQO.out.2.1]), rfl, HS2.out⟩
                    case measure => simp [intOf]; omega
      · obtain ⟨o8, q8, hv8⟩ := HS.out.ua
        have HV8 := Lib.hid hv8
        clear hv8
        have hrd := Read_any HS.out.ua of wd
        by_cases hA : of = 0 ∧ wd = 1 ∧ s.q ≠ []
        · obtain ⟨rfl, rfl, hq⟩ := hA
          obtain ⟨c', q', hq'⟩ : ∃ c' q', s.q = c' :: q' := List.exists_cons_of_ne_nil hq
          have hl0 : ¬ 128 ≤ s.lcr := by have := HS.out.lcr; omega
          have e0 : okR 0 1 = true := by decide
          have e1 : s.Rd 0 1 = { s with q := q' } := by
            show (if (0 : Nat) < 8 ∧ (1 : Int) = 1 then s.rd 0 else s) = _
            rw [if_pos (by decide)]
            show (if 128 ≤ s.lcr then s else { s with q := s.q.tail }) = _
            rw [if_neg hl0, hq']; rfl
          have e2 : s.Rv 0 1 = c'.toNat := by
            show (if (0 : Nat) < 8 ∧ (1 : Int) = 1 then s.rv 0 else 0) = _
            rw [if_pos (by decide)]
            show (if 128 ≤ s.lcr then s.d0 else match s.q with | [] => 0 | c :: _ => c.toNat) = _
            rw [if_neg hl0, hq']
          rw [e0, e1, e2] at hrd
          have HR := Lib.hid hrd
          have HEQ := Lib.hid hq'
          have hlen : s.q.length = q'.length + 1 := by rw [hq']; simp
          have hpos : (0 : Int) < (s.q.length : Int) := by omega
          have hcm : ((c'.toNat : Int) % 256) = (c'.toNat : Int) := by have := UInt8.toNat_lt c'; omega
          have e3 := str_snoc R c'
          have e9 : ¬ 9223372036854775807 < (str R).size + 1 := by rw [str_size]; omega
          clear hrd e0 e1 e2 hq hq' hl0
          obtain rfl | rfl | rfl := hr8
          all_goals
            as_aux_lemma =>
              go_wp2_with (first | (go_at_call 21; refine HR.out.mono ?_; rintro e w2 ⟨rfl, hu, ht⟩; have hz := Wr.ofRead hu ht; have hA2 : Box w2 wr.heap.size 32 #[.int .u8 what, .int .u64 (0 : Nat), .int .u64 x, .int .i64 1] := HAA.out.touch hz.2 HKA.out; have b1 : w2.cell? ⟨wr.heap.size, 1, none⟩ = some (.int .u64 0) := hA2.read 1; have b2 : w2.cell? ⟨wr.heap.size, 2, none⟩ = some (.int .u64 x) := hA2.read 2; have b3 : w2.cell? ⟨wr.heap.size, 3, none⟩ = some (.int .i64 1) := hA2.read 3; have r1 := conv_one c' w2; have HS2 : Hid (St w (w2.alloc (.cells #[.int .u8 c'.toNat] 5)) B { s with q := q' } (R ++ [c']) T (k + 1) _) := Lib.hid ((HS.out.wrote hz HS.out.lcr (by simp; omega) (by show T.length + s.out.length ≤ k + 1; omega)).more _); clear hz hA2 hu ht) | (go_at_call 13; refine (waiting_any HV8.out).mono ?_; rintro e w' ⟨rfl, rfl⟩))
              have n5 := sub_to (R ++ s.q) (R ++ [c']) q' (by first | (simp; done) | (rw [HEQ.out]; simp))
              have P1 := Lib.hid (fun wx => pre_to (R ++ s.q) (R ++ [c']) q' (by first | (simp; done) | (rw [HEQ.out]; simp)) (by simp; omega) wx)
              have P2 := Lib.hid (fun wx => pre_to (T ++ s.out) T s.out (by simp) (by simp; omega) wx)
              obtain ⟨o9, q9, hv9⟩ := HS2.out.ua
              have HV := Lib.hid hv9
              clear hv9
              go_wp2_with (first | (go_at_call 13; refine (waiting_any HV.out).mono ?_; rintro e w' ⟨rfl, rfl⟩) | (go_at_call 22; have hq9 := HQ9; clear hq9; refine (P2.out _).mono ?_; rintro e w' ⟨rfl, rfl⟩) | (go_at_call 22; refine (P1.out _).mono ?_; rintro e w' ⟨rfl, rfl⟩; have HQ9 := Lib.hid True.intro))
              go_roundw
              case rel => exact ⟨k + 1, _, (R ++ [c']), T, _, by omega, by go_num, by first | rfl | (simp; done) | (rw [HQO.out.1]) | (rw [HEQ.out]; simp), rfl, by first | rfl | (simp; done) | (rw [HQO.out.2.1]), rfl, HS2.out⟩
              case measure => simp [intOf]; omega
        · have hsm := Rd_same HS.out.lcr of wd hA
          have hvlt : s.Rv of wd < 256 := by
            unfold US.Rv
            split
            · exact rv_lt (HV8.out.ok) of
            · omega
          generalize s.Rd of wd = s' at hrd hsm
          generalize s.Rv of wd = n at hrd hvlt
          have HQO := Lib.hid hsm
          have hql : s'.q.length = s.q.length := by rw [hsm.1]
          by_cases hk : of < 8 ∧ wd = 1
          · rw [okR, decide_eq_true hk] at hrd
            have HR := Lib.hid hrd
            by_cases h0 : of = 0
            · subst h0
              have hqn : s.q = [] := by
                by_cases hq : s.q = []
                · exact hq
                · exact absurd ⟨rfl, hk.2, hq⟩ hA
              have hz0 : s.q.length = 0 := by rw [hqn]; rfl
              clear hrd hsm hk hA hqn
              obtain rfl | rfl | rfl := hr8
              all_goals
                as_aux_lemma =>
                  go_wp2_with (first | (go_at_call 21; refine HR.out.mono ?_; rintro e w2 ⟨rfl, hu, ht⟩; have hz := Wr.ofRead hu ht; have hA2 : Box w2 wr.heap.size 32 #[.int .u8 what, .int .u64 (0 : Nat), .int .u64 x, .int .i64 wd] := HAA.out.touch hz.2 HKA.out; have b1 : w2.cell? ⟨wr.heap.size, 1, none⟩ = some (.int .u64 0) := hA2.read 1; have b2 : w2.cell? ⟨wr.heap.size, 2, none⟩ = some (.int .u64 x) := hA2.read 2; have b3 : w2.cell? ⟨wr.heap.size, 3, none⟩ = some (.int .i64 wd) := hA2.read 3; have HS2 : Hid (St w w2 B s' R T (k + 1) _) := Lib.hid (HS.out.wrote hz HQO.out.2.2 (by rw [HQO.out.1]; omega) (by rw [HQO.out.2.1]; omega)); clear hz hA2 hu ht) | (go_at_call 13; refine (waiting_any HV8.out).mono ?_; rintro e w' ⟨rfl, rfl⟩))
                  have n5 := sub_to (R ++ s.q) R s.q (by first | (simp; done) | (rw [HEQ.out]; simp))
                  have P1 := Lib.hid (fun wx => pre_to (R ++ s.q) R s.q (by first | (simp; done) | (rw [HEQ.out]; simp)) (by simp; omega) wx)
                  have P2 := Lib.hid (fun wx => pre_to (T ++ s.out) T s.out (by simp) (by simp; omega) wx)
                  obtain ⟨o9, q9, hv9⟩ := HS2.out.ua
                  have HV := Lib.hid hv9
                  clear hv9
                  go_wp2_with (first | (go_at_call 13; refine (waiting_any HV.out).mono ?_; rintro e w' ⟨rfl, rfl⟩) | (go_at_call 22; have hq9 := HQ9; clear hq9; refine (P2.out _).mono ?_; rintro e w' ⟨rfl, rfl⟩) | (go_at_call 22; refine (P1.out _).mono ?_; rintro e w' ⟨rfl, rfl⟩; have HQ9 := Lib.hid True.intro))
                  go_roundw
                  case rel => exact ⟨k + 1, _, R, T, _, by omega, by go_num, by first | rfl | (simp; done) | (rw [HQO.out.1]) | (rw [HEQ.out]; simp), rfl, by first | rfl | (simp; done) | (rw [HQO.out.2.1]), rfl, HS2.out⟩
                  case measure => simp [intOf]; omega
            · have hof : ((of : Int) == 0) = false := beq_eq_false_iff_ne.2 (by omega)
              clear hrd hsm hk hA
              obtain rfl | rfl | rfl := hr8
              all_goals
                as_aux_lemma =>
                  go_wp2_with (first | (go_at_call 21; refine HR.out.mono ?_; rintro e w2 ⟨rfl, hu, ht⟩; have hz := Wr.ofRead hu ht; have hA2 : Box w2 wr.heap.size 32 #[.int .u8 what, .int .u64 of, .int .u64 x, .int .i64 wd] := HAA.out.touch hz.2 HKA.out; have b1 : w2.cell? ⟨wr.heap.size, 1, none⟩ = some (.int .u64 of) := hA2.read 1; have b2 : w2.cell? ⟨wr.heap.size, 2, none⟩ = some (.int .u64 x) := hA2.read 2; have b3 : w2.cell? ⟨wr.heap.size, 3, none⟩ = some (.int .i64 wd) := hA2.read 3; have HS2 : Hid (St w w2 B s' R T (k + 1) _) := Lib.hid (HS.out.wrote hz HQO.out.2.2 (by rw [HQO.out.1]; omega) (by rw [HQO.out.2.1]; omega)); clear hz hA2 hu ht) | (go_at_call 13; refine (waiting_any HV8.out).mono ?_; rintro e w' ⟨rfl, rfl⟩))
                  have n5 := sub_to (R ++ s.q) R s.q (by first | (simp; done) | (rw [HEQ.out]; simp))
                  have P1 := Lib.hid (fun wx => pre_to (R ++ s.q) R s.q (by first | (simp; done) | (rw [HEQ.out]; simp)) (by simp; omega) wx)
                  have P2 := Lib.hid (fun wx => pre_to (T ++ s.out) T s.out (by simp) (by simp; omega) wx)
                  obtain ⟨o9, q9, hv9⟩ := HS2.out.ua
                  have HV := Lib.hid hv9
                  clear hv9
                  go_wp2_with (first | (go_at_call 13; refine (waiting_any HV.out).mono ?_; rintro e w' ⟨rfl, rfl⟩) | (go_at_call 22; have hq9 := HQ9; clear hq9; refine (P2.out _).mono ?_; rintro e w' ⟨rfl, rfl⟩) | (go_at_call 22; refine (P1.out _).mono ?_; rintro e w' ⟨rfl, rfl⟩; have HQ9 := Lib.hid True.intro))
                  go_roundw
                  case rel => exact ⟨k + 1, _, R, T, _, by omega, by go_num, by first | rfl | (simp; done) | (rw [HQO.out.1]) | (rw [HEQ.out]; simp), rfl, by first | rfl | (simp; done) | (rw [HQO.out.2.1]), rfl, HS2.out⟩
                  case measure => simp [intOf]; omega
          · rw [okR, decide_eq_false hk] at hrd
            have HR := Lib.hid hrd
            clear hrd hsm hk hA
            obtain rfl | rfl | rfl := hr8
            all_goals
              as_aux_lemma =>
                go_wp2_with (first | (go_at_call 21; refine HR.out.mono ?_; rintro e w2 ⟨rfl, hu, ht⟩; have hz := Wr.ofRead hu ht; have hA2 : Box w2 wr.heap.size 32 #[.int .u8 what, .int .u64 of, .int .u64 x, .int .i64 wd] := HAA.out.touch hz.2 HKA.out; have b1 : w2.cell? ⟨wr.heap.size, 1, none⟩ = some (.int .u64 of) := hA2.read 1; have b2 : w2.cell? ⟨wr.heap.size, 2, none⟩ = some (.int .u64 x) := hA2.read 2; have b3 : w2.cell? ⟨wr.heap.size, 3, none⟩ = some (.int .i64 wd) := hA2.read 3; have HS2 : Hid (St w w2 B s' R T (k + 1) _) := Lib.hid (HS.out.wrote hz HQO.out.2.2 (by rw [HQO.out.1]; omega) (by rw [HQO.out.2.1]; omega)); clear hz hA2 hu ht) | (go_at_call 13; refine (waiting_any HV8.out).mono ?_; rintro e w' ⟨rfl, rfl⟩))
                have n5 := sub_to (R ++ s.q) R s.q (by first | (simp; done) | (rw [HEQ.out]; simp))
                have P1 := Lib.hid (fun wx => pre_to (R ++ s.q) R s.q (by first | (simp; done) | (rw [HEQ.out]; simp)) (by simp; omega) wx)
                have P2 := Lib.hid (fun wx => pre_to (T ++ s.out) T s.out (by simp) (by simp; omega) wx)
                obtain ⟨o9, q9, hv9⟩ := HS2.out.ua
                have HV := Lib.hid hv9
                clear hv9
                go_wp2_with (first | (go_at_call 13; refine (waiting_any HV.out).mono ?_; rintro e w' ⟨rfl, rfl⟩) | (go_at_call 22; have hq9 := HQ9; clear hq9; refine (P2.out _).mono ?_; rintro e w' ⟨rfl, rfl⟩) | (go_at_call 22; refine (P1.out _).mono ?_; rintro e w' ⟨rfl, rfl⟩; have HQ9 := Lib.hid True.intro))
                go_roundw
                case rel => exact ⟨k + 1, _, R, T, _, by omega, by go_num, by first | rfl | (simp; done) | (rw [HQO.out.1]) | (rw [HEQ.out]; simp), rfl, by first | rfl | (simp; done) | (rw [HQO.out.2.1]), rfl, HS2.out⟩
                case measure => simp [intOf]; omega
    · have HB := Lib.hid hst
      clear hst
      obtain rfl : k = len := by omega
      have n1 := HB.out.n1
      have n2 := HB.out.n2
      have e8 := str_app T s.out
      have e9 : ¬ 9223372036854775807 < (str T).size + (str s.out).size := by rw [str_size, str_size]; omega
      go_wp2_with (first | (go_at_call 16; refine (Take_any HB.out.ua).mono ?_; rintro e w2 ⟨rfl, hz⟩; have hb2 : Below w.heap.size w w2 := HB.out.bel.trans (hz.2.below (fun b h => (HB.out.hK b h).1) HB.out.bel.size); have H2 := Lib.hid hb2; clear hz hb2) | (go_at_call 8; refine (awake_any _).mono ?_; rintro e w9 ⟨rfl, bel9⟩))
      go_ret
      exact ⟨rfl, H2.out.trans (bel9.mono H2.out.size)⟩
end Go.Proofs.Ytagcmajiomhbdaa
