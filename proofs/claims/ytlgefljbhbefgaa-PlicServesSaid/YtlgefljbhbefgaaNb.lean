/- PlicServes: acts; a round up to what is done. -/
import Derived.Test.YtlgefljbhbefgaaNa
set_option linter.unusedVariables false
set_option linter.unusedSimpArgs false
namespace Go.Proofs.Ytlgefljbhbefgaa
open Go.RowKit
attribute [local go_sem] Oper.semAt_some
/-- The law answers true, and what there was stays. -/
def Yes (w : World) (e : Ending) (w' : World) : Prop := e = .returned (.bool true) ∧ Below w.heap.size w w'
/-- What is done. -/
structure Deed where
  k : Nat
  n : Int
  hi : Bool
  off : Nat
  v : Nat
  wd : Int
/-- A row of deeds that stands in memory. -/
def IsDeeds (w : World) (a : Option Addr) (len : Nat) (l : List Deed) : Prop :=
  l.length = len ∧ ∀ k (f : Deed), l[k]? = some f → ∃ b off, a = some ⟨b, off, none⟩ ∧ b < w.heap.size ∧ w.cell? ⟨b, off + k * 6, none⟩ = some (.int .u8 f.k) ∧ w.cell? ⟨b, off + k * 6 + 1, none⟩ = some (.int .i64 f.n) ∧ w.cell? ⟨b, off + k * 6 + 2, none⟩ = some (.bool f.hi) ∧ w.cell? ⟨b, off + k * 6 + 3, none⟩ = some (.int .u64 f.off) ∧ w.cell? ⟨b, off + k * 6 + 4, none⟩ = some (.int .u64 f.v) ∧ w.cell? ⟨b, off + k * 6 + 5, none⟩ = some (.int .i64 f.wd) ∧ f.k < 256 ∧ f.off < 18446744073709551616 ∧ f.v < 18446744073709551616 ∧ f.n ≤ 9223372036854775807
theorem IsDeeds.later {w wx : World} {a : Option Addr} {len : Nat} {l : List Deed} (hf : IsDeeds w a len l) (bel : Below w.heap.size w wx) : IsDeeds wx a len l := ⟨hf.1, fun k f hk => by
    obtain ⟨b, off, rfl, hbb, c0, c1, c2, c3, c4, c5, hn⟩ := hf.2 k f hk
    exact ⟨b, off, rfl, Nat.lt_of_lt_of_le hbb bel.size, (bel.cell (by exact hbb)).trans c0, (bel.cell (by exact hbb)).trans c1, (bel.cell (by exact hbb)).trans c2, (bel.cell (by exact hbb)).trans c3, (bel.cell (by exact hbb)).trans c4, (bel.cell (by exact hbb)).trans c5, hn⟩⟩
/-- An act's cells. -/
abbrev acs (k : Nat) (n : Int) (hi : Bool) (off v : Nat) (wd : Int) : Array Value := #[.int .u8 k, .int .i64 n, .bool hi, .int .u64 off, .int .u64 v, .int .i64 wd]
set_option maxRecDepth 100000 in
theorem serves_long (a : Option Addr) (len cap : Nat) (h : 60 < len) (w : World) : Calls Try.prog 3 #[.slice a len cap] w (Yes w) := by
  go_enter Try.func3, Try.ntmps3
  go_wp2_with (go_at_call 4; refine (works_any _).mono ?_; rintro e w' ⟨rfl, bel⟩)
  go_ret
  exact ⟨rfl, bel⟩
set_option maxHeartbeats 8000000 in
set_option maxRecDepth 100000 in
theorem serves_all (a : Option Addr) (len cap : Nat) (l : List Deed) (hl : len ≤ 60) (w : World) (hf : IsDeeds w a len l) : Calls Try.prog 3 #[.slice a len cap] w (Yes w) := by
  have HL := Lib.hid hf.1
  have LA := Lib.hid fun wx bel => hf.later (wx := wx) bel
  clear hf
  go_enter Try.func3, Try.ntmps3
  go_wp2_with (go_at_call 5; refine (new_any _).mono ?_; rintro e w1 ⟨rfl, rfl⟩)
  have H0 : Bz w ((((w.alloc (.cells (plc .zero) 45)).alloc (.cells (bs fun _ => false) 26)).alloc (.cells (bs fun _ => false) 26)).alloc (.cells (bs fun _ => false) 26)) w.heap.size (w.heap.size + 1) (w.heap.size + 1 + 1) (w.heap.size + 1 + 1 + 1) .zero (fun _ => false) (fun _ => false) (fun _ => false) := by
    have e1 : (w.alloc (.cells (plc .zero) 45)).heap.size = w.heap.size + 1 := by simp
    have e2 : ((w.alloc (.cells (plc .zero) 45)).alloc (.cells (bs fun _ => false) 26)).heap.size = w.heap.size + 1 + 1 := by simp
    have e3 : (((w.alloc (.cells (plc .zero) 45)).alloc (.cells (bs fun _ => false) 26)).alloc (.cells (bs fun _ => false) 26)).heap.size = w.heap.size + 1 + 1 + 1 := by simp
    have b1 : Box ((w.alloc (.cells (plc .zero) 45)).alloc (.cells (bs fun _ => false) 26)) (w.heap.size + 1) 26 (bs fun _ => false) := e1 ▸ Box.made _ _ _
    have b2 : Box (((w.alloc (.cells (plc .zero) 45)).alloc (.cells (bs fun _ => false) 26)).alloc (.cells (bs fun _ => false) 26)) (w.heap.size + 1 + 1) 26 (bs fun _ => false) := e2 ▸ Box.made _ _ _
    have b3 : Box ((((w.alloc (.cells (plc .zero) 45)).alloc (.cells (bs fun _ => false) 26)).alloc (.cells (bs fun _ => false) 26)).alloc (.cells (bs fun _ => false) 26)) (w.heap.size + 1 + 1 + 1) 26 (bs fun _ => false) := e3 ▸ Box.made _ _ _
    exact ⟨(((Box.made w 45 _).more _).more _).more _, (b1.more _).more _, b2.more _, b3, by omega, by omega, by omega, Nat.le_refl _, by omega, by omega, by omega, ((((Below.refl _ _).alloc (Nat.le_refl _) _).alloc (by omega) _).alloc (by omega) _).alloc (by omega) _⟩
  simp only [bs] at H0
  generalize ((((w.alloc (.cells (plc .zero) 45)).alloc (.cells #[.bool false, .bool false, .bool false, .bool false, .bool false, .bool false, .bool false, .bool false] 26)).alloc (.cells #[.bool false, .bool false, .bool false, .bool false, .bool false, .bool false, .bool false, .bool false] 26)).alloc (.cells #[.bool false, .bool false, .bool false, .bool false, .bool false, .bool false, .bool false, .bool false] 26)) = w1 at H0 ⊢
  generalize w.heap.size + 1 + 1 + 1 = C at H0 ⊢
  generalize w.heap.size + 1 + 1 = B at H0 ⊢
  generalize w.heap.size + 1 = A at H0 ⊢
  generalize w.heap.size = P at H0 ⊢
  go_loopw [7] (fun i wr => ∃ (k : Nat) (s : PS) (F : Nat → Bool), k ≤ len ∧ i = .int .i64 k ∧ Bz w wr P A B C s s.se F s.hi ∧ Inv s F) (fun i _ => len - (intOf i).toNat)
  case atStart => exact ⟨0, .zero, fun _ => false, Nat.zero_le _, rfl, H0, Inv.zero⟩
  case round =>
    obtain ⟨k, s, F, hk, rfl, hZ, hI⟩ := hrel
    clear H0
    have k1 : (0 : Int) ≤ (k : Int) := Int.natCast_nonneg _
    by_cases hlt : k < len
    · obtain ⟨⟨what, N, hi, off, v, wd⟩, hk2⟩ : ∃ f, l[k]? = some f := ⟨_, List.getElem?_eq_getElem (by rw [HL.out]; exact hlt)⟩
      obtain ⟨b, bo, rfl, hbb, c0, c1, c2, c3, c4, c5, hw8, ho64, hv64, hN63⟩ := (LA.out wr hZ.bel).2 k ⟨what, N, hi, off, v, wd⟩ hk2
      simp only at c0 c1 c2 c3 c4 c5 hw8 ho64 hv64 hN63
      have k2 : (k : Int) < (len : Int) := by omega
      have HW : Hid (Bw w (wr.alloc (.cells (acs what N hi off v wd) 29)) P A B C s s.se F s.hi wr.heap.size (acs what N hi off v wd)) := Lib.hid ⟨hZ.below ((Below.refl _ _).alloc (Nat.le_refl _) _), Box.made _ _ _⟩
      have HI := Lib.hid hI
      clear hZ hI hbb hk2
      iterate 50 (try (first | go_values | go_skip | go_guarded | go_step | go_upon | go_in | go_back))
      rename_i K hK
      clear c0 c1 c2 c3 c4 c5
      simp only [acs] at HW
      generalize (wr.alloc (.cells #[.int .u8 what, .int .i64 N, .bool hi, .int .u64 off, .int .u64 v, .int .i64 wd] 29)) = w2 at HW ⊢
      generalize wr.heap.size = X at HW ⊢
      have hrest : ∀ (f : Nat → Value) (w3 : World) (s : PS) (F : Nat → Bool), Bw w w3 P A B C s s.se F s.hi X #[.int .u8 what, .int .i64 N, .bool hi, .int .u64 off, .int .u64 v, .int .i64 wd] → Inv s F → K { tmps := #[.slice (some ⟨b, bo, none⟩) len cap, undef, f 2, .pointer (some ⟨P, 0, none⟩), .pointer (some ⟨A, 0, none⟩), .pointer (some ⟨B, 0, none⟩), .pointer (some ⟨C, 0, none⟩), .int .i64 k, .pointer (some ⟨X, 0, none⟩), f 9, f 10, f 11, f 12, f 13, f 14, f 15, f 16, f 17, f 18, f 19, f 20, f 21, f 22, f 23, .slice (some ⟨b, bo, none⟩) len cap, .int .i64 len, .bool (decide ((60 : Int) < (len : Int))), undef, .pointer (some ⟨P, 0, none⟩), f 29, f 30, f 31, f 32, f 33, f 34, f 35, f 36, f 37, f 38, f 39, f 40, f 41, f 42, f 43, f 44, f 45, f 46, f 47, f 48, f 49, f 50, f 51, f 52, f 53, f 54, f 55, f 56, f 57, f 58, f 59, f 60, f 61, f 62, f 63, f 64, f 65, f 66, f 67, f 68, f 69, f 70, f 71, f 72, f 73, f 74, f 75, f 76, f 77, f 78, f 79, f 80, f 81, f 82, f 83, f 84, f 85, f 86, f 87, f 88, f 89, f 90, f 91, f 92, f 93, f 94, f 95, f 96, f 97, f 98, f 99, f 100, f 101, f 102, f 103, f 104, f 105, f 106, f 107, f 108, f 109, f 110, f 111, f 112, f 113, f 114, f 115, f 116, f 117, f 118, f 119, f 120, f 121, f 122, f 123, f 124, f 125, f 126, f 127, f 128, f 129, f 130, f 131, f 132, f 133, f 134, f 135, f 136, f 137, f 138, f 139, f 140, f 141, f 142, f 143, f 144, f 145, f 146, f 147, f 148, f 149, f 150, f 151, f 152, f 153, f 154, f 155, f 156, f 157, f 158, f 159, f 160, f 161, f 162, f 163, f 164, f 165, f 166, f 167, f 168, f 169, f 170, f 171, f 172, f 173, f 174, f 175, f 176, f 177, f 178, f 179, f 180, f 181, f 182, f 183, f 184, f 185, f 186, f 187, f 188, f 189, f 190, f 191, f 192, f 193, f 194, f 195, f 196, f 197, f 198, f 199, f 200, f 201, f 202, f 203, f 204, f 205, f 206, f 207, f 208, f 209, f 210, f 211, f 212, f 213, f 214, f 215, f 216, f 217, f 218, f 219, f 220, f 221, f 222, f 223, f 224, f 225, f 226, f 227, f 228, f 229, f 230, f 231, f 232, f 233, f 234, f 235, f 236, f 237, f 238, f 239, f 240, f 241, f 242, f 243, f 244, f 245, f 246, f 247, f 248, f 249, f 250, f 251, f 252, f 253, f 254, f 255, f 256, f 257, undef], defers := [] } w3 := by
        clear HW HI
        intro f w3 s F hW hI
        refine hK _ _ ?_
        clear hK K
        have ok := hI.ok
        have x0 : w3.cell? ⟨X, 0, none⟩ = some (.int .u8 what) := hW.2.read 0
        have HW := Lib.hid hW
        have HI := Lib.hid hI
        have HOK := Lib.hid ok
        clear hW hI ok
        obtain ⟨c, hc2, hce⟩ : ∃ c : Nat, c < 2 ∧ what % 2 = c := ⟨_, Nat.mod_lt _ (by decide), rfl⟩
        have h01 : c = 0 ∨ c = 1 := by omega
        rcases h01 with rfl | rfl
        · have hr1 : (what : Int) % 2 = 0 := by omega
          have hr2 : (what : Int).tmod 2 = 0 := by show (what : Int) % 2 = 0; omega
          clear hce hc2
          have HCL := Lib.hid (HI.out.claim 0)
          have HDN := Lib.hid (HI.out.done 0)
          have HSP := Lib.hid (best_spec HOK.out 0)
          have hb8 : s.best 0 < 8 := s.best_lt 0
          go_wp2_with fail
          refine (HW.out.calls HOK.out 0 (by decide)).mono ?_
          rintro e w4 ⟨rfl, hz⟩
          have H4 := Lib.hid hz
          clear hz
          go_wp2_with fail
          refine (H4.out.rpend HOK.out).mono ?_
          rintro e w5 ⟨rfl, hz⟩
          have H5 := Lib.hid hz
          clear hz
          go_wp2_with fail
          refine (H5.out.ren HOK.out 0 (by decide) rfl _ (by first | rfl | omega)).mono ?_
          rintro e w6 ⟨rfl, hz⟩
          have y1 : w6.cell? ⟨X, 1, none⟩ = some (.int .i64 N) := hz.2.read 1
          have H6 := Lib.hid hz
          clear hz x0 H4 H5
          by_cases he : N.tmod 2 = 0
          · have e1 : (N.tmod 2 != 0) = false := by simp [he]
            clear he
            go_wp2_with fail
            refine (H6.out.rcl HOK.out 0 (by decide) rfl _ (by first | rfl | omega)).mono ?_
            rintro e w7 ⟨rfl, hz⟩
            have H7 := Lib.hid hz
            clear hz H6
            by_cases hn0 : s.best 0 = 0
            · as_aux_lemma =>
              have hcf : s.calls 0 = false := by unfold PS.calls; rw [hn0, HOK.out.pr0]; simp
              have HC : Hid (s.claim 0 = s) := Lib.hid (by rw [PS.claim, if_pos hn0])
              have HPR : Hid ((s.claim 0).pr = s.pr) := Lib.hid (by rw [HC.out])
              have HBE := Lib.hid hn0
              rw [hn0, hcf]
              clear hn0 hcf hb8
              go_wp2_with fail
              refine (H7.out.rpri (HOK.out.claim 0) 0 (by decide) _ (by first | rfl | omega)).mono ?_
              rintro e w8 ⟨rfl, hz⟩
              rw [HPR.out, HOK.out.pr0]
              have H8 := Lib.hid hz
              clear hz H7
              go_wp2_with fail
              go_loopw [19] (fun i w8 => ∃ j : Nat, 1 ≤ j ∧ j ≤ 8 ∧ i = .int .u64 j ∧ Bw w w8 P A B C (s.claim 0) s.se F s.hi X #[.int .u8 what, .int .i64 N, .bool hi, .int .u64 off, .int .u64 v, .int .i64 wd]) (fun i _ => 8 - (intOf i).toNat)
              case atStart => exact ⟨1, by decide, by decide, rfl, H8.out⟩
              case round =>
                obtain ⟨j, hj1, hj8, rfl, hz⟩ := hrel
                have HJ := Lib.hid hz
                clear hz
                have j0 : (0 : Int) ≤ (j : Int) := Int.natCast_nonneg _
                by_cases h8 : j < 8
                · have j8 : (j : Int) < 8 := by omega
                  have hjw : IntKind.u64.wrap (4 * (j : Int)) = 4 * (j : Int) := by rw [IntKind.wrap_u64]; omega
                  have HR := Lib.hid (HJ.out.rpri (HOK.out.claim 0) j h8 (4 * (j : Int)) (by omega))
                  rw [HPR.out] at HR
                  have hpend : (bits .and .u64 ((bitsN s.pe 8 : Int) / 2 ^ j) 1 == 1) = s.pe j := by rw [bit_is _ (bitsN_lt s.pe 8) j h8]; exact bit_of s.pe j h8
                  have hen : (bits .and .u64 ((s.en 0 : Int) / 2 ^ j) 1 == 1) = s.on 0 j := bit_is _ (HOK.out.en 0) j h8
                  have hsp := HSP.out.2 j h8
                  have hqj : s.q 0 j = (s.pe j && s.on 0 j) := rfl
                  rw [hqj, HBE.out] at hsp
                  clear hqj
                  generalize s.pe j = pj at hpend hsp
                  generalize s.on 0 j = oj at hen hsp
                  have HSJ := Lib.hid hsp
                  clear hsp
                  cases pj <;> cases oj
                  iterate 3 (focus
                    go_wp2_with (go_at_call 9; refine HR.out.mono ?_; rintro e w9 ⟨rfl, hz⟩; have H9 := Lib.hid hz; clear hz)
                    go_roundw
                    case rel => exact ⟨j + 1, by omega, by omega, by go_num, H9.out⟩
                    case measure => simp [intOf]; omega)
                  have hle := (HSJ.out rfl).1
                  have hlt2 := (HSJ.out rfl).2
                  by_cases p0 : 0 < s.pr j
                  · exact absurd p0 (by have := HOK.out.pr0; omega)
                  · have q0 : ¬ (0 : Int) < (s.pr j : Int) := by omega
                    clear hle hlt2 p0
                    go_wp2_with (go_at_call 9; refine HR.out.mono ?_; rintro e w9 ⟨rfl, hz⟩; have H9 := Lib.hid hz; clear hz)
                    go_roundw
                    case rel => exact ⟨j + 1, by omega, by omega, by go_num, H9.out⟩
                    case measure => simp [intOf]; omega
                · obtain rfl : j = 8 := by omega
                  clear h8
                  go_wp2_with fail
                  go_roundw
                  case rel => exact ⟨k + 1, s, F, by omega, by go_num, by have := HJ.out.1; rw [HC.out] at this; exact this, HI.out⟩
                  case measure => simp [intOf]; omega
            · have HCN := Lib.hid (HCL.out hn0)
              have HDO := Lib.hid (HDN.out hn0)
              have HBS := Lib.hid (HSP.out.1.resolve_left hn0)
              have HPR : Hid ((s.claim 0).pr = s.pr) := Lib.hid HCN.out.2.2.2
              generalize hbe : s.best 0 = n at hn0 hb8 HCN HDO HBS ⊢
              have HBE := Lib.hid hbe
              clear hbe
              have n0 : (0 : Int) < (n : Int) := by omega
              have n1 : ((n : Int) == 0) = false := beq_eq_false_iff_ne.2 (by omega)
              have n7 : ¬ (7 : Int) < (n : Int) := by omega
              have n8 : (n : Int) < 8 := by omega
              have hnw : IntKind.u64.wrap (4 * (n : Int)) = 4 * (n : Int) := by rw [IntKind.wrap_u64]; omega
              have HR8 := Lib.hid (H7.out.rpri (HOK.out.claim 0) n hb8 (4 * (n : Int)) (by omega))
              rw [HPR.out] at HR8
              have hqn : s.pe n = true ∧ s.on 0 n = true := by
                have := HBS.out.1
                rw [PS.q, Bool.and_eq_true] at this
                exact this
              have hboth : (bits .and .u64 (bits .and .u64 (bitsN s.pe 8 : Int) (s.en 0 : Int) / 2 ^ n) 1 != 1) = false := by
                refine bit_both (bitsN_lt s.pe 8) (HOK.out.en 0) hb8 ?_ (of_decide_eq_true hqn.2)
                have := bit_of s.pe n hb8
                rw [hqn.1] at this
                exact of_decide_eq_true this
              have hseF : s.se n = false ∧ F n = true := ⟨HOK.out.pese n hqn.1, HI.out.pf n hqn.1⟩
              have hpn : ((s.pr n : Int) == 0) = false := beq_eq_false_iff_ne.2 (by have := HBS.out.2; omega)
              clear hqn
              generalize s.calls 0 = cb
              cases cb
              all_goals as_aux_lemma =>
                go_wp2_with (go_at_call 9; refine HR8.out.mono ?_; rintro e w8 ⟨rfl, hz⟩; have H8 := Lib.hid hz; clear hz)
                go_loopw [19] (fun i w8 => ∃ j : Nat, 1 ≤ j ∧ j ≤ 8 ∧ i = .int .u64 j ∧ Bw w w8 P A B C (s.claim 0) s.se F s.hi X #[.int .u8 what, .int .i64 N, .bool hi, .int .u64 off, .int .u64 v, .int .i64 wd]) (fun i _ => 8 - (intOf i).toNat)
                case atStart => exact ⟨1, by decide, by decide, rfl, H8.out⟩
                case round =>
                  obtain ⟨j, hj1, hj8, rfl, hz⟩ := hrel
                  have HJ := Lib.hid hz
                  clear hz
                  have j0 : (0 : Int) ≤ (j : Int) := Int.natCast_nonneg _
                  by_cases h8 : j < 8
                  · have j8 : (j : Int) < 8 := by omega
                    have hjw : IntKind.u64.wrap (4 * (j : Int)) = 4 * (j : Int) := by rw [IntKind.wrap_u64]; omega
                    have HR := Lib.hid (HJ.out.rpri (HOK.out.claim 0) j h8 (4 * (j : Int)) (by omega))
                    rw [HPR.out] at HR
                    have hpend : (bits .and .u64 ((bitsN s.pe 8 : Int) / 2 ^ j) 1 == 1) = s.pe j := by rw [bit_is _ (bitsN_lt s.pe 8) j h8]; exact bit_of s.pe j h8
                    have hen : (bits .and .u64 ((s.en 0 : Int) / 2 ^ j) 1 == 1) = s.on 0 j := bit_is _ (HOK.out.en 0) j h8
                    have hsp := HSP.out.2 j h8
                    have hqj : s.q 0 j = (s.pe j && s.on 0 j) := rfl
                    rw [hqj, HBE.out] at hsp
                    clear hqj
                    generalize s.pe j = pj at hpend hsp
                    generalize s.on 0 j = oj at hen hsp
                    have HSJ := Lib.hid hsp
                    clear hsp
                    cases pj <;> cases oj
                    iterate 3 (focus
                      go_wp2_with (go_at_call 9; refine HR.out.mono ?_; rintro e w9 ⟨rfl, hz⟩; have H9 := Lib.hid hz; clear hz)
                      go_roundw
                      case rel => exact ⟨j + 1, by omega, by omega, by go_num, H9.out⟩
                      case measure => simp [intOf]; omega)
                    have hle := (HSJ.out rfl).1
                    have hlt2 := (HSJ.out rfl).2
                    by_cases p0 : 0 < s.pr j
                    · have q0 : (0 : Int) < (s.pr j : Int) := by omega
                      have q1 : ¬ (s.pr n : Int) < (s.pr j : Int) := by omega
                      by_cases pq : s.pr j = s.pr n
                      · have q2 : ((s.pr j : Int) == (s.pr n : Int)) = true := by rw [pq]; exact beq_self_eq_true _
                        have q3 : ¬ (j : Int) < (n : Int) := by omega
                        clear pq hle hlt2 p0
                        go_wp2_with (go_at_call 9; refine HR.out.mono ?_; rintro e w9 ⟨rfl, hz⟩; have H9 := Lib.hid hz; clear hz)
                        go_roundw
                        case rel => exact ⟨j + 1, by omega, by omega, by go_num, H9.out⟩
                        case measure => simp [intOf]; omega
                      · have q2 : ((s.pr j : Int) == (s.pr n : Int)) = false := beq_eq_false_iff_ne.2 (by omega)
                        clear pq hle hlt2 p0
                        go_wp2_with (go_at_call 9; refine HR.out.mono ?_; rintro e w9 ⟨rfl, hz⟩; have H9 := Lib.hid hz; clear hz)
                        go_roundw
                        case rel => exact ⟨j + 1, by omega, by omega, by go_num, H9.out⟩
                        case measure => simp [intOf]; omega
                    · have q0 : ¬ (0 : Int) < (s.pr j : Int) := by omega
                      clear hle hlt2 p0
                      go_wp2_with (go_at_call 9; refine HR.out.mono ?_; rintro e w9 ⟨rfl, hz⟩; have H9 := Lib.hid hz; clear hz)
                      go_roundw
                      case rel => exact ⟨j + 1, by omega, by omega, by go_num, H9.out⟩
                      case measure => simp [intOf]; omega
                  · obtain rfl : j = 8 := by omega
                    clear h8
                    have cA : wr.cell? ⟨A, n, none⟩ = some (.bool false) := by rw [← hseF.1]; exact (HJ.out.1.sv.read n).trans (bs_at s.se n hb8)
                    have cB : wr.cell? ⟨B, n, none⟩ = some (.bool true) := by rw [← hseF.2]; exact (HJ.out.1.fv.read n).trans (bs_at F n hb8)
                    have fA := HJ.out.1.sv.warm n
                    have HS1 := Lib.hid (HJ.out.setS n hb8 true)
                    have cC1 : (wr.setCell ⟨A, n, none⟩ (.bool true)).cell? ⟨C, n, none⟩ = some (.bool (s.hi n)) := (HS1.out.1.hv.read n).trans (bs_at s.hi n hb8)
                    have cB1 : (wr.setCell ⟨A, n, none⟩ (.bool true)).cell? ⟨B, n, none⟩ = some (.bool true) := by have h9 := (HS1.out.1.fv.read n).trans (bs_at F n hb8); rw [hseF.2] at h9; exact h9
                    have fB1 := HS1.out.1.fv.warm n
                    have HS2 := Lib.hid (HS1.out.setF n hb8 (s.hi n))
                    have x2 : ((wr.setCell ⟨A, n, none⟩ (.bool true)).setCell ⟨B, n, none⟩ (.bool (s.hi n))).cell? ⟨X, 2, none⟩ = some (.bool hi) := HS2.out.2.read 2
                    have cA2 := HS2.out.1.sv.read n
                    cases hi
                    · go_wp2_with fail
                      go_roundw
                      case rel => exact ⟨k + 1, s.claim 0, upd F n (s.hi n), by omega, by go_num, by rw [HCN.out.2.1, HCN.out.2.2.1]; exact HS2.out.1, HCN.out.1⟩
                      case measure => simp [intOf]; omega
                    · go_wp2_with fail
                      refine (HS2.out.wcl (HOK.out.claim 0) 0 (by decide) rfl n hb8 _ (by first | rfl | omega)).mono ?_
                      rintro e w10 ⟨rfl, hz⟩
                      have cA3 : w10.cell? ⟨A, n, none⟩ = some (.bool true) := by have := (hz.1.sv.read n).trans (bs_at _ n hb8); rw [upd_at] at this; exact this
                      have fA3 := hz.1.sv.warm n
                      have HS3 := Lib.hid (hz.setS n hb8 false)
                      clear hz
                      go_wp2_with fail
                      refine (HS3.out.rpend HDO.out.1.ok).mono ?_
                      rintro e w11 ⟨rfl, hz⟩
                      have cC4 : w11.cell? ⟨C, n, none⟩ = some (.bool (s.hi n)) := (hz.1.hv.read n).trans (bs_at s.hi n hb8)
                      have hnow : (bits .and .u64 ((bitsN ((s.claim 0).done 0 n).pe 8 : Int) / 2 ^ n) 1 == 1) = s.hi n := by rw [bit_is _ (bitsN_lt _ 8) n hb8, ← HDO.out.2.2.2]; exact bit_of _ n hb8
                      have hsame : (s.hi n != s.hi n) = false := bne_self_eq_false _
                      have HS4 := Lib.hid hz
                      clear hz
                      go_wp2_with fail
                      go_roundw
                      case rel => exact ⟨k + 1, (s.claim 0).done 0 n, upd F n (s.hi n), by omega, by go_num, by rw [HDO.out.2.1, HDO.out.2.2.1]; exact HS4.out.1, HDO.out.1⟩
                      case measure => simp [intOf]; omega
          · have e1 : (N.tmod 2 != 0) = true := bne_iff_ne.2 he
            clear he
            as_aux_lemma =>
            go_wp2_with fail
            go_roundw
            case rel => exact ⟨k + 1, s, F, by omega, by go_num, H6.out.1, HI.out⟩
            case measure => simp [intOf]; omega
        · have hr1 : (what : Int) % 2 = 1 := by omega
          have hr2 : (what : Int).tmod 2 = 1 := by show (what : Int) % 2 = 1; omega
          clear hce hc2
          have HCL := Lib.hid (HI.out.claim 1)
          have HDN := Lib.hid (HI.out.done 1)
          have HSP := Lib.hid (best_spec HOK.out 1)
          have hb8 : s.best 1 < 8 := s.best_lt 1
          go_wp2_with fail
          refine (HW.out.calls HOK.out 1 (by decide)).mono ?_
          rintro e w4 ⟨rfl, hz⟩
          have H4 := Lib.hid hz
          clear hz
          go_wp2_with fail
          refine (H4.out.rpend HOK.out).mono ?_
          rintro e w5 ⟨rfl, hz⟩
          have H5 := Lib.hid hz
          clear hz
          go_wp2_with fail
          refine (H5.out.ren HOK.out 1 (by decide) rfl _ (by first | rfl | omega)).mono ?_
          rintro e w6 ⟨rfl, hz⟩
          have y1 : w6.cell? ⟨X, 1, none⟩ = some (.int .i64 N) := hz.2.read 1
          have H6 := Lib.hid hz
          clear hz x0 H4 H5
          by_cases he : N.tmod 2 = 0
          · have e1 : (N.tmod 2 != 0) = false := by simp [he]
            clear he
            go_wp2_with fail
            refine (H6.out.rcl HOK.out 1 (by decide) rfl _ (by first | rfl | omega)).mono ?_
            rintro e w7 ⟨rfl, hz⟩
            have H7 := Lib.hid hz
            clear hz H6
            by_cases hn0 : s.best 1 = 0
            · as_aux_lemma =>
              have hcf : s.calls 1 = false := by unfold PS.calls; rw [hn0, HOK.out.pr0]; simp
              have HC : Hid (s.claim 1 = s) := Lib.hid (by rw [PS.claim, if_pos hn0])
              have HPR : Hid ((s.claim 1).pr = s.pr) := Lib.hid (by rw [HC.out])
              have HBE := Lib.hid hn0
              rw [hn0, hcf]
              clear hn0 hcf hb8
              go_wp2_with fail
              refine (H7.out.rpri (HOK.out.claim 1) 0 (by decide) _ (by first | rfl | omega)).mono ?_
              rintro e w8 ⟨rfl, hz⟩
              rw [HPR.out, HOK.out.pr0]
              have H8 := Lib.hid hz
              clear hz H7
              go_wp2_with fail
              go_loopw [19] (fun i w8 => ∃ j : Nat, 1 ≤ j ∧ j ≤ 8 ∧ i = .int .u64 j ∧ Bw w w8 P A B C (s.claim 1) s.se F s.hi X #[.int .u8 what, .int .i64 N, .bool hi, .int .u64 off, .int .u64 v, .int .i64 wd]) (fun i _ => 8 - (intOf i).toNat)
              case atStart => exact ⟨1, by decide, by decide, rfl, H8.out⟩
              case round =>
                obtain ⟨j, hj1, hj8, rfl, hz⟩ := hrel
                have HJ := Lib.hid hz
                clear hz
                have j0 : (0 : Int) ≤ (j : Int) := Int.natCast_nonneg _
                by_cases h8 : j < 8
                · have j8 : (j : Int) < 8 := by omega
                  have hjw : IntKind.u64.wrap (4 * (j : Int)) = 4 * (j : Int) := by rw [IntKind.wrap_u64]; omega
                  have HR := Lib.hid (HJ.out.rpri (HOK.out.claim 1) j h8 (4 * (j : Int)) (by omega))
                  rw [HPR.out] at HR
                  have hpend : (bits .and .u64 ((bitsN s.pe 8 : Int) / 2 ^ j) 1 == 1) = s.pe j := by rw [bit_is _ (bitsN_lt s.pe 8) j h8]; exact bit_of s.pe j h8
                  have hen : (bits .and .u64 ((s.en 1 : Int) / 2 ^ j) 1 == 1) = s.on 1 j := bit_is _ (HOK.out.en 1) j h8
                  have hsp := HSP.out.2 j h8
                  have hqj : s.q 1 j = (s.pe j && s.on 1 j) := rfl
                  rw [hqj, HBE.out] at hsp
                  clear hqj
                  generalize s.pe j = pj at hpend hsp
                  generalize s.on 1 j = oj at hen hsp
                  have HSJ := Lib.hid hsp
                  clear hsp
                  cases pj <;> cases oj
                  iterate 3 (focus
                    go_wp2_with (go_at_call 9; refine HR.out.mono ?_; rintro e w9 ⟨rfl, hz⟩; have H9 := Lib.hid hz; clear hz)
                    go_roundw
                    case rel => exact ⟨j + 1, by omega, by omega, by go_num, H9.out⟩
                    case measure => simp [intOf]; omega)
                  have hle := (HSJ.out rfl).1
                  have hlt2 := (HSJ.out rfl).2
                  by_cases p0 : 0 < s.pr j
                  · exact absurd p0 (by have := HOK.out.pr0; omega)
                  · have q0 : ¬ (0 : Int) < (s.pr j : Int) := by omega
                    clear hle hlt2 p0
                    go_wp2_with (go_at_call 9; refine HR.out.mono ?_; rintro e w9 ⟨rfl, hz⟩; have H9 := Lib.hid hz; clear hz)
                    go_roundw
                    case rel => exact ⟨j + 1, by omega, by omega, by go_num, H9.out⟩
                    case measure => simp [intOf]; omega
                · obtain rfl : j = 8 := by omega
                  clear h8
                  go_wp2_with fail
                  go_roundw
                  case rel => exact ⟨k + 1, s, F, by omega, by go_num, by have := HJ.out.1; rw [HC.out] at this; exact this, HI.out⟩
                  case measure => simp [intOf]; omega
            · have HCN := Lib.hid (HCL.out hn0)
              have HDO := Lib.hid (HDN.out hn0)
              have HBS := Lib.hid (HSP.out.1.resolve_left hn0)
              have HPR : Hid ((s.claim 1).pr = s.pr) := Lib.hid HCN.out.2.2.2
              generalize hbe : s.best 1 = n at hn0 hb8 HCN HDO HBS ⊢
              have HBE := Lib.hid hbe
              clear hbe
              have n0 : (0 : Int) < (n : Int) := by omega
              have n1 : ((n : Int) == 0) = false := beq_eq_false_iff_ne.2 (by omega)
              have n7 : ¬ (7 : Int) < (n : Int) := by omega
              have n8 : (n : Int) < 8 := by omega
              have hnw : IntKind.u64.wrap (4 * (n : Int)) = 4 * (n : Int) := by rw [IntKind.wrap_u64]; omega
              have HR8 := Lib.hid (H7.out.rpri (HOK.out.claim 1) n hb8 (4 * (n : Int)) (by omega))
              rw [HPR.out] at HR8
              have hqn : s.pe n = true ∧ s.on 1 n = true := by
                have := HBS.out.1
                rw [PS.q, Bool.and_eq_true] at this
                exact this
              have hboth : (bits .and .u64 (bits .and .u64 (bitsN s.pe 8 : Int) (s.en 1 : Int) / 2 ^ n) 1 != 1) = false := by
                refine bit_both (bitsN_lt s.pe 8) (HOK.out.en 1) hb8 ?_ (of_decide_eq_true hqn.2)
                have := bit_of s.pe n hb8
                rw [hqn.1] at this
                exact of_decide_eq_true this
              have hseF : s.se n = false ∧ F n = true := ⟨HOK.out.pese n hqn.1, HI.out.pf n hqn.1⟩
              have hpn : ((s.pr n : Int) == 0) = false := beq_eq_false_iff_ne.2 (by have := HBS.out.2; omega)
              clear hqn
              generalize s.calls 1 = cb
              cases cb
              all_goals as_aux_lemma =>
                go_wp2_with (go_at_call 9; refine HR8.out.mono ?_; rintro e w8 ⟨rfl, hz⟩; have H8 := Lib.hid hz; clear hz)
                go_loopw [19] (fun i w8 => ∃ j : Nat, 1 ≤ j ∧ j ≤ 8 ∧ i = .int .u64 j ∧ Bw w w8 P A B C (s.claim 1) s.se F s.hi X #[.int .u8 what, .int .i64 N, .bool hi, .int .u64 off, .int .u64 v, .int .i64 wd]) (fun i _ => 8 - (intOf i).toNat)
                case atStart => exact ⟨1, by decide, by decide, rfl, H8.out⟩
                case round =>
                  obtain ⟨j, hj1, hj8, rfl, hz⟩ := hrel
                  have HJ := Lib.hid hz
                  clear hz
                  have j0 : (0 : Int) ≤ (j : Int) := Int.natCast_nonneg _
                  by_cases h8 : j < 8
                  · have j8 : (j : Int) < 8 := by omega
                    have hjw : IntKind.u64.wrap (4 * (j : Int)) = 4 * (j : Int) := by rw [IntKind.wrap_u64]; omega
                    have HR := Lib.hid (HJ.out.rpri (HOK.out.claim 1) j h8 (4 * (j : Int)) (by omega))
                    rw [HPR.out] at HR
                    have hpend : (bits .and .u64 ((bitsN s.pe 8 : Int) / 2 ^ j) 1 == 1) = s.pe j := by rw [bit_is _ (bitsN_lt s.pe 8) j h8]; exact bit_of s.pe j h8
                    have hen : (bits .and .u64 ((s.en 1 : Int) / 2 ^ j) 1 == 1) = s.on 1 j := bit_is _ (HOK.out.en 1) j h8
                    have hsp := HSP.out.2 j h8
                    have hqj : s.q 1 j = (s.pe j && s.on 1 j) := rfl
                    rw [hqj, HBE.out] at hsp
                    clear hqj
                    generalize s.pe j = pj at hpend hsp
                    generalize s.on 1 j = oj at hen hsp
                    have HSJ := Lib.hid hsp
                    clear hsp
                    cases pj <;> cases oj
                    iterate 3 (focus
                      go_wp2_with (go_at_call 9; refine HR.out.mono ?_; rintro e w9 ⟨rfl, hz⟩; have H9 := Lib.hid hz; clear hz)
                      go_roundw
                      case rel => exact ⟨j + 1, by omega, by omega, by go_num, H9.out⟩
                      case measure => simp [intOf]; omega)
                    have hle := (HSJ.out rfl).1
                    have hlt2 := (HSJ.out rfl).2
                    by_cases p0 : 0 < s.pr j
                    · have q0 : (0 : Int) < (s.pr j : Int) := by omega
                      have q1 : ¬ (s.pr n : Int) < (s.pr j : Int) := by omega
                      by_cases pq : s.pr j = s.pr n
                      · have q2 : ((s.pr j : Int) == (s.pr n : Int)) = true := by rw [pq]; exact beq_self_eq_true _
                        have q3 : ¬ (j : Int) < (n : Int) := by omega
                        clear pq hle hlt2 p0
                        go_wp2_with (go_at_call 9; refine HR.out.mono ?_; rintro e w9 ⟨rfl, hz⟩; have H9 := Lib.hid hz; clear hz)
                        go_roundw
                        case rel => exact ⟨j + 1, by omega, by omega, by go_num, H9.out⟩
                        case measure => simp [intOf]; omega
                      · have q2 : ((s.pr j : Int) == (s.pr n : Int)) = false := beq_eq_false_iff_ne.2 (by omega)
                        clear pq hle hlt2 p0
                        go_wp2_with (go_at_call 9; refine HR.out.mono ?_; rintro e w9 ⟨rfl, hz⟩; have H9 := Lib.hid hz; clear hz)
                        go_roundw
                        case rel => exact ⟨j + 1, by omega, by omega, by go_num, H9.out⟩
                        case measure => simp [intOf]; omega
                    · have q0 : ¬ (0 : Int) < (s.pr j : Int) := by omega
                      clear hle hlt2 p0
                      go_wp2_with (go_at_call 9; refine HR.out.mono ?_; rintro e w9 ⟨rfl, hz⟩; have H9 := Lib.hid hz; clear hz)
                      go_roundw
                      case rel => exact ⟨j + 1, by omega, by omega, by go_num, H9.out⟩
                      case measure => simp [intOf]; omega
                  · obtain rfl : j = 8 := by omega
                    clear h8
                    have cA : wr.cell? ⟨A, n, none⟩ = some (.bool false) := by rw [← hseF.1]; exact (HJ.out.1.sv.read n).trans (bs_at s.se n hb8)
                    have cB : wr.cell? ⟨B, n, none⟩ = some (.bool true) := by rw [← hseF.2]; exact (HJ.out.1.fv.read n).trans (bs_at F n hb8)
                    have fA := HJ.out.1.sv.warm n
                    have HS1 := Lib.hid (HJ.out.setS n hb8 true)
                    have cC1 : (wr.setCell ⟨A, n, none⟩ (.bool true)).cell? ⟨C, n, none⟩ = some (.bool (s.hi n)) := (HS1.out.1.hv.read n).trans (bs_at s.hi n hb8)
                    have cB1 : (wr.setCell ⟨A, n, none⟩ (.bool true)).cell? ⟨B, n, none⟩ = some (.bool true) := by have h9 := (HS1.out.1.fv.read n).trans (bs_at F n hb8); rw [hseF.2] at h9; exact h9
                    have fB1 := HS1.out.1.fv.warm n
                    have HS2 := Lib.hid (HS1.out.setF n hb8 (s.hi n))
                    have x2 : ((wr.setCell ⟨A, n, none⟩ (.bool true)).setCell ⟨B, n, none⟩ (.bool (s.hi n))).cell? ⟨X, 2, none⟩ = some (.bool hi) := HS2.out.2.read 2
                    have cA2 := HS2.out.1.sv.read n
                    cases hi
                    · go_wp2_with fail
                      go_roundw
                      case rel => exact ⟨k + 1, s.claim 1, upd F n (s.hi n), by omega, by go_num, by rw [HCN.out.2.1, HCN.out.2.2.1]; exact HS2.out.1, HCN.out.1⟩
                      case measure => simp [intOf]; omega
                    · go_wp2_with fail
                      refine (HS2.out.wcl (HOK.out.claim 1) 1 (by decide) rfl n hb8 _ (by first | rfl | omega)).mono ?_
                      rintro e w10 ⟨rfl, hz⟩
                      have cA3 : w10.cell? ⟨A, n, none⟩ = some (.bool true) := by have := (hz.1.sv.read n).trans (bs_at _ n hb8); rw [upd_at] at this; exact this
                      have fA3 := hz.1.sv.warm n
                      have HS3 := Lib.hid (hz.setS n hb8 false)
                      clear hz
                      go_wp2_with fail
                      refine (HS3.out.rpend HDO.out.1.ok).mono ?_
                      rintro e w11 ⟨rfl, hz⟩
                      have cC4 : w11.cell? ⟨C, n, none⟩ = some (.bool (s.hi n)) := (hz.1.hv.read n).trans (bs_at s.hi n hb8)
                      have hnow : (bits .and .u64 ((bitsN ((s.claim 1).done 1 n).pe 8 : Int) / 2 ^ n) 1 == 1) = s.hi n := by rw [bit_is _ (bitsN_lt _ 8) n hb8, ← HDO.out.2.2.2]; exact bit_of _ n hb8
                      have hsame : (s.hi n != s.hi n) = false := bne_self_eq_false _
                      have HS4 := Lib.hid hz
                      clear hz
                      go_wp2_with fail
                      go_roundw
                      case rel => exact ⟨k + 1, (s.claim 1).done 1 n, upd F n (s.hi n), by omega, by go_num, by rw [HDO.out.2.1, HDO.out.2.2.1]; exact HS4.out.1, HDO.out.1⟩
                      case measure => simp [intOf]; omega
          · have e1 : (N.tmod 2 != 0) = true := bne_iff_ne.2 he
            clear he
            as_aux_lemma =>
            go_wp2_with fail
            go_roundw
            case rel => exact ⟨k + 1, s, F, by omega, by go_num, H6.out.1, HI.out⟩
            case measure => simp [intOf]; omega
      have K_of : ∀ (tm : Array Value) (w3 : World) (s : PS) (F : Nat → Bool), tm.size = 259 → tm.getD 0 undef = .slice (some ⟨b, bo, none⟩) len cap → tm.getD 1 undef = undef → tm.getD 3 undef = .pointer (some ⟨P, 0, none⟩) → tm.getD 4 undef = .pointer (some ⟨A, 0, none⟩) → tm.getD 5 undef = .pointer (some ⟨B, 0, none⟩) → tm.getD 6 undef = .pointer (some ⟨C, 0, none⟩) → tm.getD 7 undef = .int .i64 k → tm.getD 8 undef = .pointer (some ⟨X, 0, none⟩) → tm.getD 24 undef = .slice (some ⟨b, bo, none⟩) len cap → tm.getD 25 undef = .int .i64 len → tm.getD 26 undef = .bool (decide ((60 : Int) < (len : Int))) → tm.getD 27 undef = undef → tm.getD 28 undef = .pointer (some ⟨P, 0, none⟩) → tm.getD 258 undef = undef → Bw w w3 P A B C s s.se F s.hi X #[.int .u8 what, .int .i64 N, .bool hi, .int .u64 off, .int .u64 v, .int .i64 wd] → Inv s F → K { tmps := tm, defers := [] } w3 := by
        as_aux_lemma =>
        clear HW HI
        intro tm w3 s F hsz h0 h1 h3 h4 h5 h6 h7 h8 h24 h25 h26 h27 h28 h258 hW hI
        have e : tm = #[tm.getD 0 undef, tm.getD 1 undef, tm.getD 2 undef, tm.getD 3 undef, tm.getD 4 undef, tm.getD 5 undef, tm.getD 6 undef, tm.getD 7 undef, tm.getD 8 undef, tm.getD 9 undef, tm.getD 10 undef, tm.getD 11 undef, tm.getD 12 undef, tm.getD 13 undef, tm.getD 14 undef, tm.getD 15 undef, tm.getD 16 undef, tm.getD 17 undef, tm.getD 18 undef, tm.getD 19 undef, tm.getD 20 undef, tm.getD 21 undef, tm.getD 22 undef, tm.getD 23 undef, tm.getD 24 undef, tm.getD 25 undef, tm.getD 26 undef, tm.getD 27 undef, tm.getD 28 undef, tm.getD 29 undef, tm.getD 30 undef, tm.getD 31 undef, tm.getD 32 undef, tm.getD 33 undef, tm.getD 34 undef, tm.getD 35 undef, tm.getD 36 undef, tm.getD 37 undef, tm.getD 38 undef, tm.getD 39 undef, tm.getD 40 undef, tm.getD 41 undef, tm.getD 42 undef, tm.getD 43 undef, tm.getD 44 undef, tm.getD 45 undef, tm.getD 46 undef, tm.getD 47 undef, tm.getD 48 undef, tm.getD 49 undef, tm.getD 50 undef, tm.getD 51 undef, tm.getD 52 undef, tm.getD 53 undef, tm.getD 54 undef, tm.getD 55 undef, tm.getD 56 undef, tm.getD 57 undef, tm.getD 58 undef, tm.getD 59 undef, tm.getD 60 undef, tm.getD 61 undef, tm.getD 62 undef, tm.getD 63 undef, tm.getD 64 undef, tm.getD 65 undef, tm.getD 66 undef, tm.getD 67 undef, tm.getD 68 undef, tm.getD 69 undef, tm.getD 70 undef, tm.getD 71 undef, tm.getD 72 undef, tm.getD 73 undef, tm.getD 74 undef, tm.getD 75 undef, tm.getD 76 undef, tm.getD 77 undef, tm.getD 78 undef, tm.getD 79 undef, tm.getD 80 undef, tm.getD 81 undef, tm.getD 82 undef, tm.getD 83 undef, tm.getD 84 undef, tm.getD 85 undef, tm.getD 86 undef, tm.getD 87 undef, tm.getD 88 undef, tm.getD 89 undef, tm.getD 90 undef, tm.getD 91 undef, tm.getD 92 undef, tm.getD 93 undef, tm.getD 94 undef, tm.getD 95 undef, tm.getD 96 undef, tm.getD 97 undef, tm.getD 98 undef, tm.getD 99 undef, tm.getD 100 undef, tm.getD 101 undef, tm.getD 102 undef, tm.getD 103 undef, tm.getD 104 undef, tm.getD 105 undef, tm.getD 106 undef, tm.getD 107 undef, tm.getD 108 undef, tm.getD 109 undef, tm.getD 110 undef, tm.getD 111 undef, tm.getD 112 undef, tm.getD 113 undef, tm.getD 114 undef, tm.getD 115 undef, tm.getD 116 undef, tm.getD 117 undef, tm.getD 118 undef, tm.getD 119 undef, tm.getD 120 undef, tm.getD 121 undef, tm.getD 122 undef, tm.getD 123 undef, tm.getD 124 undef, tm.getD 125 undef, tm.getD 126 undef, tm.getD 127 undef, tm.getD 128 undef, tm.getD 129 undef, tm.getD 130 undef, tm.getD 131 undef, tm.getD 132 undef, tm.getD 133 undef, tm.getD 134 undef, tm.getD 135 undef, tm.getD 136 undef, tm.getD 137 undef, tm.getD 138 undef, tm.getD 139 undef, tm.getD 140 undef, tm.getD 141 undef, tm.getD 142 undef, tm.getD 143 undef, tm.getD 144 undef, tm.getD 145 undef, tm.getD 146 undef, tm.getD 147 undef, tm.getD 148 undef, tm.getD 149 undef, tm.getD 150 undef, tm.getD 151 undef, tm.getD 152 undef, tm.getD 153 undef, tm.getD 154 undef, tm.getD 155 undef, tm.getD 156 undef, tm.getD 157 undef, tm.getD 158 undef, tm.getD 159 undef, tm.getD 160 undef, tm.getD 161 undef, tm.getD 162 undef, tm.getD 163 undef, tm.getD 164 undef, tm.getD 165 undef, tm.getD 166 undef, tm.getD 167 undef, tm.getD 168 undef, tm.getD 169 undef, tm.getD 170 undef, tm.getD 171 undef, tm.getD 172 undef, tm.getD 173 undef, tm.getD 174 undef, tm.getD 175 undef, tm.getD 176 undef, tm.getD 177 undef, tm.getD 178 undef, tm.getD 179 undef, tm.getD 180 undef, tm.getD 181 undef, tm.getD 182 undef, tm.getD 183 undef, tm.getD 184 undef, tm.getD 185 undef, tm.getD 186 undef, tm.getD 187 undef, tm.getD 188 undef, tm.getD 189 undef, tm.getD 190 undef, tm.getD 191 undef, tm.getD 192 undef, tm.getD 193 undef, tm.getD 194 undef, tm.getD 195 undef, tm.getD 196 undef, tm.getD 197 undef, tm.getD 198 undef, tm.getD 199 undef, tm.getD 200 undef, tm.getD 201 undef, tm.getD 202 undef, tm.getD 203 undef, tm.getD 204 undef, tm.getD 205 undef, tm.getD 206 undef, tm.getD 207 undef, tm.getD 208 undef, tm.getD 209 undef, tm.getD 210 undef, tm.getD 211 undef, tm.getD 212 undef, tm.getD 213 undef, tm.getD 214 undef, tm.getD 215 undef, tm.getD 216 undef, tm.getD 217 undef, tm.getD 218 undef, tm.getD 219 undef, tm.getD 220 undef, tm.getD 221 undef, tm.getD 222 undef, tm.getD 223 undef, tm.getD 224 undef, tm.getD 225 undef, tm.getD 226 undef, tm.getD 227 undef, tm.getD 228 undef, tm.getD 229 undef, tm.getD 230 undef, tm.getD 231 undef, tm.getD 232 undef, tm.getD 233 undef, tm.getD 234 undef, tm.getD 235 undef, tm.getD 236 undef, tm.getD 237 undef, tm.getD 238 undef, tm.getD 239 undef, tm.getD 240 undef, tm.getD 241 undef, tm.getD 242 undef, tm.getD 243 undef, tm.getD 244 undef, tm.getD 245 undef, tm.getD 246 undef, tm.getD 247 undef, tm.getD 248 undef, tm.getD 249 undef, tm.getD 250 undef, tm.getD 251 undef, tm.getD 252 undef, tm.getD 253 undef, tm.getD 254 undef, tm.getD 255 undef, tm.getD 256 undef, tm.getD 257 undef, tm.getD 258 undef] := (arr_eq tm 259 hsz).trans rfl
        rw [e, h0, h1, h3, h4, h5, h6, h7, h8, h24, h25, h26, h27, h28, h258]
        exact hrest (fun i => tm.getD i undef) w3 s F hW hI
      clear hrest hK
      have y0 : w2.cell? ⟨X, 0, none⟩ = some (.int .u8 what) := HW.out.2.read 0
      have y1 : w2.cell? ⟨X, 1, none⟩ = some (.int .i64 N) := HW.out.2.read 1
      have y2 : w2.cell? ⟨X, 2, none⟩ = some (.bool hi) := HW.out.2.read 2
      have y3 : w2.cell? ⟨X, 3, none⟩ = some (.int .u64 off) := HW.out.2.read 3
      have y4 : w2.cell? ⟨X, 4, none⟩ = some (.int .u64 v) := HW.out.2.read 4
      have y5 : w2.cell? ⟨X, 5, none⟩ = some (.int .i64 wd) := HW.out.2.read 5
      have hm1 : (what : Int) % 13 = ((what % 13 : Nat) : Int) := rfl
      have hm2 : (what : Int).tmod 13 = ((what % 13 : Nat) : Int) := rfl
      have hm13 : what % 13 < 13 := Nat.mod_lt _ (by decide)
      have HK := Lib.hid K_of
      clear K_of
      generalize what % 13 = r at hm1 hm2 hm13
      by_cases hr3 : r < 3
      · have q3 : (r : Int) < 3 := by omega
        clear hr3 hm13
        by_cases hN : 1 ≤ N ∧ N < 8
        · as_aux_lemma =>
          obtain ⟨n, rfl⟩ : ∃ n : Nat, N = n := ⟨N.toNat, by omega⟩
          have n1 : 1 ≤ n := by omega
          have n8 : n < 8 := by omega
          have m0 : (0 : Int) ≤ (n : Int) := Int.natCast_nonneg _
          have m8 : (n : Int) < 8 := hN.2
          clear hN
          go_wp2_with fail
          refine (raise_yes HW.out.1.pl n n1 n8 hi).mono ?_
          rintro e w4 ⟨rfl, hb, ho⟩
          have H4 := Lib.hid (HW.out.plc hb ho)
          clear hb ho y0 y1 y2 y3 y4 y5
          have z1 : w4.cell? ⟨X, 1, none⟩ = some (.int .i64 n) := H4.out.2.read 1
          have z2 : w4.cell? ⟨X, 2, none⟩ = some (.bool hi) := H4.out.2.read 2
          have cC : w4.cell? ⟨C, n, none⟩ = some (.bool (s.hi n)) := (H4.out.1.hv.read n).trans (bs_at s.hi n n8)
          have fC := H4.out.1.hv.warm n
          have H5 := Lib.hid (H4.out.setH n n8 hi)
          have HI5 := Lib.hid (HI.out.raise n1 hi)
          have v1 : ∀ j, ((w4.setCell ⟨C, n, none⟩ (.bool hi)).drewN j).cell? ⟨X, 1, none⟩ = some (.int .i64 n) := fun j => (H5.out.2.drawn j).read 1
          have v2 : ∀ j, ((w4.setCell ⟨C, n, none⟩ (.bool hi)).drewN j).cell? ⟨X, 2, none⟩ = some (.bool hi) := fun j => (H5.out.2.drawn j).read 2
          have vB : ∀ j, ((w4.setCell ⟨C, n, none⟩ (.bool hi)).drewN j).cell? ⟨B, n, none⟩ = some (.bool (F n)) := fun j => ((H5.out.1.fv.drawn j).read n).trans (bs_at F n n8)
          generalize hFn : F n = fb at vB HI5
          have HFN := Lib.hid hFn
          clear hFn
          cases fb
          all_goals
            go_wp2_with fail
            refine wp_region_quiet_at 11 (by kernel_rfl) (by kernel_rfl) (by kernel_rfl) (by kernel_rfl) ?_
            simp only [List.take_succ_cons, List.take_zero, List.drop_succ_cons, List.drop_zero]
            repeat (go_big_quiet_step (fail))
            refine wpQuiet_nil ?_
            intro w9 hw9
            obtain ⟨nq, hw9⟩ := hw9
            subst hw9
            have H9 : Hid (Bw w ((w4.setCell ⟨C, n, none⟩ (.bool hi)).drewN nq) P A B C (s.raise n hi) s.se F (upd s.hi n hi) X #[.int .u8 what, .int .i64 n, .bool hi, .int .u64 off, .int .u64 v, .int .i64 wd]) := Lib.hid (H5.out.below (below_drawn (Below.refl _ _) nq))
            clear v1 v2 vB z1 z2 cC fC
            generalize (w4.setCell ⟨C, n, none⟩ (.bool hi)).drewN nq = w9 at H9 ⊢
            have cB : w9.cell? ⟨B, n, none⟩ = some (.bool (F n)) := (H9.out.1.fv.read n).trans (bs_at F n n8)
            have fB := H9.out.1.fv.warm n
            have HS := Lib.hid (H9.out.setF n n8 true)
            have HSh := Lib.hid (H9.out.setF n n8 hi)
            go_wp2_with fail
            exact HK.out _ _ (s.raise n hi) _ rfl rfl rfl rfl rfl rfl rfl rfl rfl rfl rfl rfl rfl rfl rfl (by first | exact HS.out | exact HSh.out | (simpa using HSh.out)) HI5.out
        · go_wp2_with fail
          refine (raise_no HW.out.1.pl N hN hN63 hi).mono ?_
          rintro e w4 ⟨rfl, rfl⟩
          go_wp2_with fail
          exact HK.out _ _ s F rfl rfl rfl rfl rfl rfl rfl rfl rfl rfl rfl rfl rfl rfl rfl HW.out HI.out
      · have q3 : ¬ (r : Int) < 3 := by omega
        generalize hbb : (bits .andNot .u64 (off : Int) 4096 != 2097156) = bb
        by_cases h12 : r < 12
        · have q12 : (r : Int) < 12 := by omega
          by_cases h6 : 6 < r
          · have q6 : (6 : Int) < (r : Int) := by omega
            cases bb
            · clear hr3 hm13 h12 h6
              go_wp2_with fail
              exact HK.out _ _ s F rfl rfl rfl rfl rfl rfl rfl rfl rfl rfl rfl rfl rfl rfl rfl HW.out HI.out
            · have hne : off ≠ 2101252 ∧ off ≠ 2097156 := by
                constructor
                · intro e; subst e; exact absurd hbb (by decide)
                · intro e; subst e; exact absurd hbb (by decide)
              clear hr3 hm13 h12 h6
              go_wp2_with fail
              cases hreg : isReg off wd
              · refine (write_no HW.out.1.pl off v wd hreg).mono ?_
                rintro e w4 ⟨rfl, rfl⟩
                go_wp2_with fail
                exact HK.out _ _ s F rfl rfl rfl rfl rfl rfl rfl rfl rfl rfl rfl rfl rfl rfl rfl HW.out HI.out
              · obtain rfl : wd = 4 := (of_decide_eq_true hreg).1
                refine (write_any HW.out.1.pl HI.out.ok off v hv64 hreg).mono ?_
                rintro e w4 ⟨rfl, hb, ho⟩
                have H4 := Lib.hid (HW.out.plc hb ho)
                obtain ⟨e1, e2, e3⟩ := wr_keeps s off (v % 4294967296) hne.1 hne.2
                have HE := Lib.hid (And.intro e1 e3)
                clear hb ho e1 e2 e3
                go_wp2_with fail
                exact HK.out _ _ (s.wr off (v % 4294967296)) F rfl rfl rfl rfl rfl rfl rfl rfl rfl rfl rfl rfl rfl rfl rfl (by rw [HE.out.1, HE.out.2]; exact H4.out) (HI.out.wr off _ hne.1 hne.2)
          · have q6 : ¬ (6 : Int) < (r : Int) := by omega
            clear hbb hr3 hm13 h12 h6
            go_wp2_with fail
            exact HK.out _ _ s F rfl rfl rfl rfl rfl rfl rfl rfl rfl rfl rfl rfl rfl rfl rfl HW.out HI.out
        · have q12 : ¬ (r : Int) < 12 := by omega
          clear hbb hr3 hm13 h12
          go_wp2_with fail
          exact HK.out _ _ s F rfl rfl rfl rfl rfl rfl rfl rfl rfl rfl rfl rfl rfl rfl rfl HW.out HI.out
    · have HB := Lib.hid hZ.bel
      clear hZ hI
      obtain rfl : k = len := by omega
      clear hlt
      go_wp2_with (go_at_call 4; refine (works_any _).mono ?_; rintro e w9 ⟨rfl, bl9⟩)
      go_ret
      exact ⟨rfl, HB.out.trans (bl9.mono HB.out.size)⟩
end Go.Proofs.Ytlgefljbhbefgaa
