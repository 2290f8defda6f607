/- Load: what it answers, by a reading of the text that has no memory. -/
import Derived.Test.YtnignbpgcopehaaL
set_option linter.unusedVariables false
set_option linter.unusedSimpArgs false
namespace Go.Proofs.Ytnignbpgcopehaa
open Go.RowKit
section
variable (s : ByteArray)
def tkN (p : Nat) (t : Bool) : Nat := numL (textS s p 1 t).data.toList
def tkP (p : Nat) (t : Bool) : Nat := textP s p 1 t
def tkT (p : Nat) (t : Bool) : Bool := bad s p 1 t
def ldF (m : Nat) : Nat → Nat → Bool → List Sm → Option (Nat × Bool × List Sm)
  | 0, p, t, Ms => some (p, t, Ms)
  | k + 1, p, t, Ms => if m < tkN s p t then none else ldF m k (textP s (tkP s p t) (tkN s p t) (tkT s p t)) (bad s (tkP s p t) (tkN s p t) (tkT s p t)) (Ms ++ [mkS (textS s (tkP s p t) (tkN s p t) (tkT s p t))])
def ldAll (d m : Nat) : Option (Nat × Bool × List Sm) := if d < tkN s 0 false then none else ldF s m (tkN s 0 false) (tkP s 0 false) (tkT s 0 false) []
def loadE (d m : Nat) : Int := match ldAll s d m with
  | none => 3
  | some (p, t, _) => if t = true then 4 else if p < s.size then 3 else 0
end
theorem textS_size (s : ByteArray) (p n : Nat) (t : Bool) : (textS s p n t).size ≤ n := by
  unfold textS
  cases bad s p n t
  · show (s.extract p (p + n)).size ≤ n
    rw [ByteArray.size_extract]; omega
  · exact Nat.zero_le _
theorem tkN_lt (s : ByteArray) (p : Nat) (t : Bool) : tkN s p t < 256 := by
  have h := numL_lt (textS s p 1 t).data.toList
  have h1 := textS_size s p 1 t
  have h2 : (textS s p 1 t).data.toList.length ≤ 1 := h1
  unfold tkN
  exact Nat.lt_of_lt_of_le h (Nat.pow_le_pow_right (by decide) h2)
section
variable {w w' : World} {X S0 p b : Nat} {s : ByteArray} {t : Bool}
theorem Src.only (h : Src w X S0 s p t) (k : Only b w w') (h1 : X ≠ b) (h2 : S0 ≠ b) : Src w' X S0 s p t := ⟨h.box.only k h1, h.txt.only k h2, h.ne, h.le⟩
theorem take1 (h : Src w X S0 s p t) (hs : s.size ≤ 4611686018427387904) : Calls Try.prog 30 #[.pointer (some ⟨X, 0, none⟩), .int .i64 1] w fun e w' => e = .returned (.int .u64 (tkN s p t)) ∧ Src w' X S0 s (tkP s p t) (tkT s p t) ∧ Only X w w' := take_any h hs 1
theorem text1 (h : Src w X S0 s p t) (hs : s.size ≤ 4611686018427387904) (n : Nat) : Calls Try.prog 31 #[.pointer (some ⟨X, 0, none⟩), .int .i64 n] w fun e w' => e = .returned (.string (textS s p n t)) ∧ Src w' X S0 s (textP s p n t) (bad s p n t) ∧ Only X w w' := by
  have := text_any h hs (n : Int)
  rwa [Int.toNat_natCast] at this
end
/-- A queue, and a source beside it. -/
structure Ld (w wr : World) (B d m : Nat) (Ms : List Sm) (X S0 : Nat) (s : ByteArray) (p : Nat) (t : Bool) : Prop where
  q : Ql wr B d m Ms
  x : Src wr X S0 s p t
  ne1 : B ≠ X
  ne2 : S0 ≠ B
  lB : w.heap.size ≤ B
  lX : w.heap.size ≤ X
  bel : Below w.heap.size w wr
section
variable {w wr : World} {B d m X S0 p : Nat} {Ms : List Sm} {s : ByteArray} {t : Bool}
theorem Ld.take (h : Ld w wr B d m Ms X S0 s p t) (hs : s.size ≤ 4611686018427387904) : Calls Try.prog 30 #[.pointer (some ⟨X, 0, none⟩), .int .i64 1] wr fun e w' => e = .returned (.int .u64 (tkN s p t)) ∧ Ld w w' B d m Ms X S0 s (tkP s p t) (tkT s p t) := by
  refine (take1 h.x hs).mono ?_
  rintro e w' ⟨rfl, hx, ho⟩
  exact ⟨rfl, h.q.only ho h.ne1, hx, h.ne1, h.ne2, h.lB, h.lX, h.bel.trans (ho.below h.lX h.bel.size)⟩
theorem Ld.text (h : Ld w wr B d m Ms X S0 s p t) (hs : s.size ≤ 4611686018427387904) (n : Nat) : Calls Try.prog 31 #[.pointer (some ⟨X, 0, none⟩), .int .i64 n] wr fun e w' => e = .returned (.string (textS s p n t)) ∧ Ld w w' B d m Ms X S0 s (textP s p n t) (bad s p n t) := by
  refine (text1 h.x hs n).mono ?_
  rintro e w' ⟨rfl, hx, ho⟩
  exact ⟨rfl, h.q.only ho h.ne1, hx, h.ne1, h.ne2, h.lB, h.lX, h.bel.trans (ho.below h.lX h.bel.size)⟩
theorem Ld.send (h : Ld w wr B d m Ms X S0 s p t) (z : ByteArray) (hz : z.size ≤ m) (hl : Ms.length < d) : Calls Try.prog 15 #[.pointer (some ⟨B, 0, none⟩), .string z] wr fun e w' => e = .returned (.int .u8 0) ∧ Ld w w' B d m (Ms ++ [mkS z]) X S0 s p t := by
  refine (ql_send h.q z).mono ?_
  rintro e w' ⟨rfl, hq, ho⟩
  unfold sendM at hq
  rw [if_neg (by omega), if_neg (by omega)] at hq
  refine ⟨?_, hq, h.x.only ho (fun e => h.ne1 e.symm) h.ne2, h.ne1, h.ne2, h.lB, h.lX, h.bel.trans (ho.below h.lB h.bel.size)⟩
  unfold sendN
  rw [if_neg (by omega), if_neg (by omega)]
  rfl
end
theorem ret2_eq {P : Value} {K : IntKind} {v z : Int} (h : v = z) : Ending.returned (.tuple #[P, .int K v]) = .returned (.tuple #[P, .int K z]) := by rw [h]
theorem loadE_none {s : ByteArray} {d m : Nat} (h : ldAll s d m = none) : loadE s d m = 3 := by unfold loadE; rw [h]
theorem loadE_some {s : ByteArray} {d m p : Nat} {t : Bool} {Ms : List Sm} (h : ldAll s d m = some (p, t, Ms)) : loadE s d m = if t = true then 4 else if p < s.size then 3 else 0 := by unfold loadE; rw [h]
set_option maxHeartbeats 4000000 in
set_option maxRecDepth 100000 in
theorem load_any (d m : Nat) (h0 : 1 ≤ d) (h1 : d ≤ 16) (h2 : 1 ≤ m) (h3 : m ≤ 64) (s : ByteArray) (hs : s.size ≤ 4611686018427387904) (w : World) : Calls Try.prog 18 #[.int .u8 d, .int .u8 m, .string s] w fun e w' => ∃ P, e = .returned (.tuple #[P, .int .i64 (loadE s d m)]) ∧ Below w.heap.size w w' ∧ (loadE s d m = 0 → ∃ B p Ms, P = .pointer (some ⟨B, 0, none⟩) ∧ w.heap.size ≤ B ∧ ldAll s d m = some (p, false, Ms) ∧ s.size ≤ p ∧ Ql w' B d m Ms) := by
  have HS := Lib.hid hs
  have hc := tkN_lt s 0 false
  go_enter Try.func18, Try.ntmps18
  go_wp2_with (first
    | (go_at_call 7; refine (new_ok d m h0 h1 h2 h3 w).mono ?_; rintro e w1 ⟨rfl, hq, hb1, hlt1⟩)
    | (go_at_call 29; refine (of_any s _).mono ?_; rintro e w2 ⟨rfl, hx, hb2, hlt2⟩; have HL : Hid (Ld w w2 w.heap.size d m [] (w1.heap.size + 1) w1.heap.size s 0 false) := Lib.hid ⟨⟨fun _ => ⟨⟨#[]⟩, Nat.zero_le _⟩, 0, hq.over hb2 hlt1, rfl⟩, hx, by omega, by omega, Nat.le_refl _, by omega, hb1.trans (hb2.mono (by omega))⟩; clear hq hx hb1 hb2)
    | (go_at_call 30; refine (HL.out.take HS.out).mono ?_; rintro e w3 ⟨rfl, hz⟩; have HL0 := Lib.hid hz; clear hz))
  · have hN : ldAll s d m = none := by unfold ldAll; rw [if_pos (by assumption)]
    go_ret2
    exact ⟨_, ret2_eq (loadE_none hN).symm, HL0.out.bel, fun h => by rw [loadE_none hN] at h; simp at h⟩
  · have hA0 : ldAll s d m = ldF s m (tkN s 0 false) (tkP s 0 false) (tkT s 0 false) [] := by unfold ldAll; rw [if_neg (by assumption)]
    have hcd : tkN s 0 false ≤ d := by omega
    have hS := HL0.out
    clear HL HL0 hlt1 hlt2
    generalize hc0 : tkN s 0 false = c at hc hA0 hcd ⊢
    generalize tkP s 0 false = p0 at hA0 hS
    generalize tkT s 0 false = t0 at hA0 hS
    generalize w1.heap.size + 1 = X at hS ⊢
    generalize w1.heap.size = S0 at hS ⊢
    generalize hBB : w.heap.size = B at hS ⊢
    have HBB := Lib.hid hBB
    clear hBB hc0
    go_loopw [12, 31] (fun v i wr => ∃ (k : Nat) (Ms : List Sm) (p : Nat) (t : Bool), k ≤ c ∧ i = .int .u64 k ∧ Ms.length = k ∧ ldF s m (c - k) p t Ms = ldAll s d m ∧ Ld w wr B d m Ms X S0 s p t) (fun _ i _ => c - (intOf i).toNat)
    case atStart => exact ⟨0, [], p0, t0, Nat.zero_le _, rfl, rfl, by rw [hA0]; rfl, hS⟩
    case round =>
      obtain ⟨k, Ms, p, t, hk, rfl, hMk, hld, hst⟩ := hrel
      clear hS hA0
      have k1 : (0 : Int) ≤ (k : Int) := Int.natCast_nonneg _
      by_cases hlt : k < c
      · have k2 : (k : Int) < (c : Int) := by omega
        have hld' : (if m < tkN s p t then none else ldF s m (c - k - 1) (textP s (tkP s p t) (tkN s p t) (tkT s p t)) (bad s (tkP s p t) (tkN s p t) (tkT s p t)) (Ms ++ [mkS (textS s (tkP s p t) (tkN s p t) (tkT s p t))])) = ldAll s d m := by
          have e : c - k = (c - k - 1) + 1 := by omega
          rw [e] at hld
          exact hld
        clear hld
        have HT := Lib.hid hst
        have hn := tkN_lt s p t
        clear hst
        have hdM : Ms.length < d := by omega
        by_cases hm : m < tkN s p t
        · rw [if_pos hm] at hld'
          go_wp2_with (go_at_call 30; refine (HT.out.take HS.out).mono ?_; rintro e w4 ⟨rfl, hz⟩; have HZ := Lib.hid hz; clear hz)
          go_ret2
          exact ⟨_, ret2_eq (loadE_none hld'.symm).symm, HZ.out.bel, fun h => by rw [loadE_none hld'.symm] at h; simp at h⟩
        · rw [if_neg hm] at hld'
          have hts := textS_size s (tkP s p t) (tkN s p t) (tkT s p t)
          have HX := Lib.hid hld'
          clear hld'
          go_wp2_with (first
            | (go_at_call 30; refine (HT.out.take HS.out).mono ?_; rintro e w4 ⟨rfl, hz⟩; have HZ := Lib.hid hz; clear hz)
            | (go_at_call 31; refine (HZ.out.text HS.out (tkN s p t)).mono ?_; rintro e w5 ⟨rfl, hz⟩; have HZ2 := Lib.hid hz; clear hz)
            | (go_at_call 15; refine (HZ2.out.send _ (by omega) hdM).mono ?_; rintro e w6 ⟨rfl, hz⟩; have HZ3 := Lib.hid hz; clear hz))
          go_roundw
          case rel => exact ⟨k + 1, _, _, _, by omega, by go_num, by rw [List.length_append, hMk]; rfl, by rw [show c - (k + 1) = c - k - 1 by omega]; exact HX.out, HZ3.out⟩
          case measure => simp [intOf]; omega
      · have hkc : k = c := by omega
        subst hkc
        rw [Nat.sub_self] at hld
        have HX : Hid (ldAll s d m = some (p, t, Ms)) := Lib.hid hld.symm
        have HT := Lib.hid hst
        clear hst hld
        have HE := end_any HT.out.x
        by_cases ht : t = true
        · have he : endN t (s.size - p : Int) = 4 := by unfold endN; rw [if_pos ht]
          rw [he] at HE
          have hv : loadE s d m = 4 := by rw [loadE_some HX.out, if_pos ht]
          have HE := Lib.hid HE
          go_wp2_with (go_at_call 32; refine HE.out.mono ?_; rintro e w7 ⟨rfl, rfl⟩)
          go_ret2
          exact ⟨_, ret2_eq hv.symm, HT.out.bel, fun h => by rw [hv] at h; simp at h⟩
        · by_cases hp : p < s.size
          · have he : endN t (s.size - p : Int) = 5 := by unfold endN; rw [if_neg ht, if_pos (by omega)]
            rw [he] at HE
            have hv : loadE s d m = 3 := by rw [loadE_some HX.out, if_neg ht, if_pos hp]
            have HE := Lib.hid HE
            go_wp2_with (go_at_call 32; refine HE.out.mono ?_; rintro e w7 ⟨rfl, rfl⟩)
            go_ret2
            exact ⟨_, ret2_eq hv.symm, HT.out.bel, fun h => by rw [hv] at h; simp at h⟩
          · have he : endN t (s.size - p : Int) = 0 := by unfold endN; rw [if_neg ht, if_neg (by omega)]
            rw [he] at HE
            have hv : loadE s d m = 0 := by rw [loadE_some HX.out, if_neg ht, if_neg hp]
            have HE := Lib.hid HE
            go_wp2_with (go_at_call 32; refine HE.out.mono ?_; rintro e w7 ⟨rfl, rfl⟩)
            go_ret2
            exact ⟨_, ret2_eq hv.symm, HT.out.bel, fun h => ⟨B, p, Ms, rfl, by rw [HBB.out]; exact Nat.le_refl _, by rw [HX.out]; cases t <;> simp_all, by omega, HT.out.q⟩⟩
end Go.Proofs.Ytnignbpgcopehaa
