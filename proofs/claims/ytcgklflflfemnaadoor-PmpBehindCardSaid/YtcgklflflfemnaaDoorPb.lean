/- entryOf. -/
import Derived.Test.YtcgklflflfemnaaDoorPa
set_option linter.unusedVariables false
set_option linter.unusedSimpArgs false
namespace Go.Proofs.YtcgklflflfemnaaDoor
open Go.RowKit
/-- The registers of addresses. -/
def arr (A : Nat → Nat) : Array Value := #[.int .u64 (A 0), .int .u64 (A 1), .int .u64 (A 2), .int .u64 (A 3), .int .u64 (A 4), .int .u64 (A 5), .int .u64 (A 6), .int .u64 (A 7)]
theorem arr_at (A : Nat → Nat) : ∀ k : Nat, k < 8 → (arr A)[k]? = some (.int .u64 (A k))
  | 0, _ => rfl
  | 1, _ => rfl
  | 2, _ => rfl
  | 3, _ => rfl
  | 4, _ => rfl
  | 5, _ => rfl
  | 6, _ => rfl
  | 7, _ => rfl
  | k + 8, h => absurd h (by omega)
def napZ (own : Nat) : Nat := Lib.ctz 64 (18446744073709551615 - own)
def napF (own : Nat) : Nat := own / 2 ^ napZ own * 2 ^ napZ own * 4
def napS (own : Nat) : Nat := 8 * 2 ^ napZ own
def cfgB (c i : Nat) : Nat := c / 2 ^ (8 * i) % 256
def own (A : Nat → Nat) (i : Nat) : Nat := A i % 18014398509481984
def from' (A : Nat → Nat) (i : Nat) : Nat := if i = 0 then 0 else own A (i - 1)
/-- An entry, where it has a range. -/
def entOf (c : Nat) (A : Nat → Nat) (i : Nat) : Option Ent :=
  if cfgB c i / 8 % 4 = 1 then (if from' A i < own A i then some ⟨4 * from' A i, 4 * own A i - 1, cfgB c i⟩ else none)
  else if cfgB c i / 8 % 4 = 2 then some ⟨4 * own A i, 4 * own A i + 3, cfgB c i⟩
  else if cfgB c i / 8 % 4 = 3 then some ⟨napF (own A i), napF (own A i) + napS (own A i) - 1, cfgB c i⟩ else none
theorem napZ_le {o : Nat} (h : o < 18014398509481984) : napZ o ≤ 54 := by
  have h0 : 18446744073709551615 - o ≠ 0 := by omega
  obtain ⟨m, hm, hk⟩ := Lib.ctzFrom_spec 64 (18446744073709551615 - o) (by omega) (by omega)
  have e : napZ o = Lib.ctzFrom 64 (18446744073709551615 - o) := by unfold napZ Lib.ctz; rw [if_neg h0]
  rw [← e] at hm
  by_cases hz : napZ o ≤ 54
  · exact hz
  · exfalso
    obtain ⟨d, hd⟩ : ∃ d, napZ o = 55 + d := ⟨napZ o - 55, by omega⟩
    rw [hd, Nat.pow_add, Nat.mul_assoc] at hm
    generalize 2 ^ d * (2 * m + 1) = q at hm
    have : (2 : Nat) ^ 55 = 36028797018963968 := by decide
    rw [this] at hm
    omega
theorem entOf_le {c : Nat} {A : Nat → Nat} {i : Nat} {e : Ent} (h : entOf c A i = some e) : e.f ≤ e.l := by
  unfold entOf at h
  split at h
  · split at h
    · cases h; simp only; omega
    · cases h
  · split at h
    · cases h; simp only; omega
    · split at h
      · cases h
        have : 0 < 2 ^ napZ (own A i) := Nat.two_pow_pos _
        simp only [napS]
        omega
      · cases h
theorem mask_eq (x k m M : Nat) (hx : x < 18446744073709551616) (hm : m = 2 ^ k - 1) (hM : M = 2 ^ k) (hml : m < 18446744073709551616 := by decide) : bits .and .u64 (x : Int) (m : Int) = ((x % M : Nat) : Int) := by
  have e2 : (((x : Int)) % 2 ^ 64).toNat = x := by omega
  have e3 : (((m : Int)) % 2 ^ 64).toNat = m := by omega
  have e : bits .and .u64 (x : Int) (m : Int) = IntKind.u64.wrap ((((((x : Int)) % 2 ^ 64).toNat &&& (((m : Int)) % 2 ^ 64).toNat : Nat) : Nat) : Int) := rfl
  rw [e, e2, e3, hm, Nat.and_two_pow_sub_one_eq_mod, ← hM]
  have : x % M ≤ x := Nat.mod_le _ _
  show ((x % M : Nat) : Int) % 18446744073709551616 = _
  omega
theorem fin_and3 : ∀ n : Fin 256, bits .and .u8 ((n.1 : Nat) : Int) 3 = ((n.1 % 4 : Nat) : Int) := by decide +kernel
theorem xones (b : Nat) (hb : b < 2 ^ 64) : (2 ^ 64 - 1) ^^^ b = 2 ^ 64 - 1 - b := by
  have h : (BitVec.allOnes 64 ^^^ BitVec.ofNat 64 b) = ~~~ (BitVec.ofNat 64 b) := by
    rw [BitVec.not_def]
  have h2 := congrArg BitVec.toNat h
  simp only [BitVec.toNat_xor, BitVec.toNat_allOnes, BitVec.toNat_not, BitVec.toNat_ofNat, Nat.mod_eq_of_lt hb] at h2
  exact h2
theorem xor_not (st : Nat) (h : st < 18446744073709551616) : bits BinOp.xor IntKind.u64 (if IntKind.u64.signed = true then -1 else IntKind.u64.max) (st : Int) = ((18446744073709551615 - st : Nat) : Int) := by
  have h1 := xones st h
  have e2 : (((st : Int)) % 2 ^ 64).toNat = st := by omega
  have e : bits BinOp.xor IntKind.u64 (if IntKind.u64.signed = true then -1 else IntKind.u64.max) (st : Int) = IntKind.u64.wrap (((18446744073709551615 ^^^ (((st : Int)) % 2 ^ 64).toNat : Nat) : Nat) : Int) := rfl
  rw [e, e2]
  have h2 : 18446744073709551615 ^^^ st = 18446744073709551615 - st := h1
  rw [h2]
  show ((18446744073709551615 - st : Nat) : Int) % 18446744073709551616 = _
  omega
/-- What the library's TrailingZeros64 answers in each world behind W. -/
def TzIs (W : World) : Prop := ∀ (x : Nat) (w : World), x < 18446744073709551616 → Below W.heap.size W w → Calls Tryd.prog 21 #[.int .u64 x] w fun e w' => e = .returned (.int .i64 (Lib.ctz 64 x : Nat)) ∧ w' = w
theorem TzIs.over {w w' : World} (h : TzIs w) (k : Below w.heap.size w w') : TzIs w' := fun x wx hx hb => h x wx hx (k.trans (hb.mono k.size))
theorem ends17 {W4 : World} {q : Nat} {f l b : Int} {ok : Bool} (h : Box W4 q 45 #[.int .u64 f, .int .u64 l, .int .u8 b]) (tmps : Array Value) (hp : tmps.getD 6 undef = .pointer (some ⟨q, 0, none⟩)) (hq : tmps.getD 7 undef = .bool ok) :
    (results Tryd.f17 tmps).run Tryd.prog W4 = .ok (.tuple #[.agg #[.int .u64 f, .int .u64 l, .int .u8 b], .bool ok]) W4 := by
  have n0 := h.read 0
  have n1 := h.read 1
  have n2 := h.read 2
  have hp' : tmps[6]?.getD undef = .pointer (some ⟨q, 0, none⟩) := by simpa using hp
  have hq' : tmps[7]?.getD undef = .bool ok := by simpa using hq
  simp at n0 n1 n2
  simp [results, Tryd.results17, go_sem, n0, n1, n2, hp', hq']
theorem ent_k2 {c : Nat} {A : Nat → Nat} {i : Nat} (h : cfgB c i / 8 % 4 = 2) : entOf c A i = some ⟨4 * own A i, 4 * own A i + 3, cfgB c i⟩ := by
  unfold entOf
  rw [if_neg (by omega), if_pos h]
theorem ent_k3 {c : Nat} {A : Nat → Nat} {i : Nat} (h : cfgB c i / 8 % 4 = 3) : entOf c A i = some ⟨napF (own A i), napF (own A i) + napS (own A i) - 1, cfgB c i⟩ := by
  unfold entOf
  rw [if_neg (by omega), if_neg (by omega), if_pos h]
theorem ent_k0 {c : Nat} {A : Nat → Nat} {i : Nat} (h : cfgB c i / 8 % 4 = 0) : entOf c A i = none := by
  unfold entOf
  rw [if_neg (by omega), if_neg (by omega), if_neg (by omega)]
theorem ent_k1 {c : Nat} {A : Nat → Nat} {i : Nat} (h : cfgB c i / 8 % 4 = 1) : entOf c A i = (if from' A i < own A i then some ⟨4 * from' A i, 4 * own A i - 1, cfgB c i⟩ else none) := by
  unfold entOf
  rw [if_pos h]
set_option maxHeartbeats 1000000 in
theorem entry_any {W w : World} (hT : TzIs W) (hW : Below W.heap.size W w) (c : Nat) (A : Nat → Nat) (i : Nat) (hc : c < 18446744073709551616) (hA : ∀ k, A k < 18446744073709551616) (hi : i < 8) :
    Calls Tryd.prog 17 #[.int .u64 c, .agg (arr A), .int .i64 i] w fun e w' => (∃ f l b ok, e = .returned (.tuple #[.agg #[.int .u64 f, .int .u64 l, .int .u8 b], .bool ok]) ∧ (ok = true → ∃ x : Ent, entOf c A i = some x ∧ f = (x.f : Nat) ∧ l = (x.l : Nat) ∧ b = (x.b : Nat)) ∧ (ok = false → entOf c A i = none)) ∧ Below w.heap.size w w' := by
  obtain ⟨bb, hbb⟩ : ∃ bb, bb = cfgB c i := ⟨_, rfl⟩
  obtain ⟨oo, hoo⟩ : ∃ oo, oo = own A i := ⟨_, rfl⟩
  have hcb : (c : Int) / 2 ^ (8 * i) % 256 = (bb : Nat) := by rw [hbb]; unfold cfgB; rw [Int.natCast_emod, Int.natCast_ediv, Int.natCast_pow]; rfl
  have hco : (A i : Int) % 18014398509481984 = (oo : Nat) := by rw [hoo]; rfl
  have hb8 : bb < 256 := by rw [hbb]; exact Nat.mod_lt _ (by decide)
  have ho54 : oo < 18014398509481984 := by rw [hoo]; exact Nat.mod_lt _ (by decide)
  have hai := hA i
  obtain ⟨W3, hW3⟩ : ∃ W3, ((w.alloc (.cells (arr A) 23)).alloc (.cells #[.int .u64 0, .int .u64 0, .int .u8 0] 45)).alloc (.cells #[.int .u64 0, .int .u64 0, .int .u8 bb] 45) = W3 := ⟨_, rfl⟩
  have B1 : Box W3 w.heap.size 23 (arr A) := by rw [← hW3]; exact ((Box.made w 23 (arr A)).more _).more _
  have B6 : Box W3 (w.heap.size + 1) 45 #[.int .u64 0, .int .u64 0, .int .u8 0] := by
    have := Box.made (w.alloc (.cells (arr A) 23)) 45 #[.int .u64 0, .int .u64 0, .int .u8 0]
    rw [World.size_alloc] at this
    rw [← hW3]; exact this.more _
  have B8 : Box W3 (w.heap.size + 1 + 1) 45 #[.int .u64 0, .int .u64 0, .int .u8 bb] := by
    have := Box.made ((w.alloc (.cells (arr A) 23)).alloc (.cells #[.int .u64 0, .int .u64 0, .int .u8 0] 45)) 45 #[.int .u64 0, .int .u64 0, .int .u8 bb]
    rw [World.size_alloc, World.size_alloc] at this
    rw [← hW3]; exact this
  have D3 : Below w.heap.size w W3 := by rw [← hW3]; exact (((Below.refl _ w).alloc (Nat.le_refl _) _).alloc (by simp) _).alloc (by simp; omega) _
  have ca : W3.cell? ⟨w.heap.size, i, none⟩ = some (.int .u64 (A i)) := (B1.read i).trans (arr_at A i hi)
  have HB1 := Lib.hid (fun (j : Nat) (hj : j < 8) => (B1.read j).trans (arr_at A j hj))
  have g0 := B6.read 0
  have g1 := B6.read 1
  have g2 := B6.read 2
  have f0 := B6.warm 0
  have f1 := B6.warm 1
  have f2 := B6.warm 2
  have p0 := B8.read 0
  have p1 := B8.read 1
  have p2 := B8.read 2
  have q0 := B8.warm 0
  have q1 := B8.warm 1
  have q2 := B8.warm 2
  have HB := Lib.hid (And.intro B6 (And.intro B8 D3))
  have HE := Lib.hid (And.intro hbb hoo)
  clear B1 B6 B8 D3 hbb hoo
  have hm1 : bits BinOp.and IntKind.u64 (A i : Int) 18014398509481983 = (oo : Nat) := by rw [HE.out.2]; exact mask_eq (A i) 54 18014398509481983 18014398509481984 (hA i) (by decide) (by decide)
  have hm2 : bits BinOp.and IntKind.u8 ((bb : Int) / 8) 3 = ((bb / 8 % 4 : Nat) : Int) := fin_and3 ⟨bb / 8, by omega⟩
  have z1 : (0 : Int) ≤ (oo : Int) := Int.natCast_nonneg _
  have z2 : (oo : Int) < 18014398509481984 := by omega
  by_cases hk2 : bb / 8 % 4 = 2
  · rw [hk2] at hm2
    have hkk : cfgB c i / 8 % 4 = 2 := by rw [← HE.out.1]; exact hk2
    go_enter Tryd.func17, Tryd.ntmps17
    go_wp2
    refine bodyPost_ret (ends17 (q := w.heap.size + 1) (f := 4 * (oo : Int)) (l := 4 * (oo : Int) + 3) (b := (bb : Int)) (ok := true) (box_eq (((((HB.out.1.putFar (p := ⟨w.heap.size + 1 + 1, 0, none⟩) (by show w.heap.size + 1 ≠ w.heap.size + 1 + 1; omega) _).putFar (p := ⟨w.heap.size + 1 + 1, 1, none⟩) (by show w.heap.size + 1 ≠ w.heap.size + 1 + 1; omega) _).put 0 _).put 1 _).put 2 _) rfl) _ rfl rfl) rfl ?_
    refine ⟨⟨_, _, _, _, rfl, fun _ => ⟨_, ent_k2 hkk, ?_, ?_, ?_⟩, fun h => by cases h⟩, (((((HB.out.2.2.setCell (p := ⟨w.heap.size + 1 + 1, 0, none⟩) (by show w.heap.size ≤ w.heap.size + 1 + 1; omega) _).setCell (p := ⟨w.heap.size + 1 + 1, 1, none⟩) (by show w.heap.size ≤ w.heap.size + 1 + 1; omega) _).setCell (p := ⟨w.heap.size + 1, 0, none⟩) (by show w.heap.size ≤ w.heap.size + 1; omega) _).setCell (p := ⟨w.heap.size + 1, 1, none⟩) (by show w.heap.size ≤ w.heap.size + 1; omega) _).setCell (p := ⟨w.heap.size + 1, 2, none⟩) (by show w.heap.size ≤ w.heap.size + 1; omega) _)⟩
    · simp only; rw [← HE.out.2]; omega
    · simp only; rw [← HE.out.2]; omega
    · simp only; rw [← HE.out.1]
  · by_cases hk3 : bb / 8 % 4 = 3
    · rw [hk3] at hm2
      have hkk : cfgB c i / 8 % 4 = 3 := by rw [← HE.out.1]; exact hk3
      have hx := xor_not oo (by omega)
      have hz54 := napZ_le ho54
      obtain ⟨z, hz⟩ : ∃ z, z = napZ oo := ⟨_, rfl⟩
      have HT := Lib.hid (hT (18446744073709551615 - oo) W3 (by omega) (hW.trans (HB.out.2.2.mono hW.size)))
      rw [show Lib.ctz 64 (18446744073709551615 - oo) = z from hz.symm] at HT
      rw [← hz] at hz54
      have y1 : min z 64 = z := by omega
      have p54 : 2 ^ z ≤ 18014398509481984 := Nat.pow_le_pow_right (by decide : 0 < 2) hz54
      have pz : 0 < 2 ^ z := Nat.two_pow_pos z
      have hF0 : oo / 2 ^ z * 2 ^ z ≤ oo := Nat.div_mul_le_self _ _
      obtain ⟨ff, hff⟩ : ∃ ff, ff = oo / 2 ^ z * 2 ^ z := ⟨_, rfl⟩
      obtain ⟨ss, hss⟩ : ∃ ss, ss = 8 * 2 ^ z := ⟨_, rfl⟩
      have y2 : IntKind.u64.wrap ((oo : Int) / 2 ^ z * 2 ^ z) = (ff : Nat) := by
        have e : (oo : Int) / 2 ^ z * 2 ^ z = ((ff : Nat) : Int) := by rw [hff, Int.natCast_mul, Int.natCast_ediv, Int.natCast_pow]; rfl
        rw [e]
        show (ff : Int) % 18446744073709551616 = _
        omega
      have y3 : IntKind.u64.wrap ((8 : Int) * 2 ^ z) = (ss : Nat) := by
        have e : (8 : Int) * 2 ^ z = ((ss : Nat) : Int) := by rw [hss, Int.natCast_mul, Int.natCast_pow]; rfl
        rw [e]
        show (ss : Int) % 18446744073709551616 = _
        omega
      have f1' : ff ≤ 18014398509481984 := by omega
      have s1' : ss ≤ 144115188075855872 := by omega
      have s0' : 1 ≤ ss := by omega
      have f0' : (0 : Int) ≤ (ff : Int) := Int.natCast_nonneg _
      have y4 : IntKind.u64.wrap ((ff : Int) * 4) = (ff : Int) * 4 := by show ((ff : Int) * 4) % 18446744073709551616 = _; omega
      have y5 : IntKind.u64.wrap ((ff : Int) * 4 + (ss : Int)) = (ff : Int) * 4 + (ss : Int) := by show ((ff : Int) * 4 + (ss : Int)) % 18446744073709551616 = _; omega
      have y6 : IntKind.u64.wrap ((ff : Int) * 4 + (ss : Int) - 1) = (ff : Int) * 4 + (ss : Int) - 1 := by show ((ff : Int) * 4 + (ss : Int) - 1) % 18446744073709551616 = _; omega
      have HZ := Lib.hid (And.intro hz (And.intro hff hss))
      clear hz hff hss p54 pz hF0
      go_enter Tryd.func17, Tryd.ntmps17
      go_wp2_with (go_at_call 21; refine HT.out.mono ?_; rintro e w' ⟨rfl, hw⟩; subst hw)
      refine bodyPost_ret (ends17 (q := w.heap.size + 1) (f := (ff : Int) * 4) (l := (ff : Int) * 4 + (ss : Int) - 1) (b := (bb : Int)) (ok := true) (box_eq (((((HB.out.1.putFar (p := ⟨w.heap.size + 1 + 1, 0, none⟩) (by show w.heap.size + 1 ≠ w.heap.size + 1 + 1; omega) _).putFar (p := ⟨w.heap.size + 1 + 1, 1, none⟩) (by show w.heap.size + 1 ≠ w.heap.size + 1 + 1; omega) _).put 0 _).put 1 _).put 2 _) rfl) _ rfl rfl) rfl ?_
      refine ⟨⟨_, _, _, _, rfl, fun _ => ⟨_, ent_k3 hkk, ?_, ?_, ?_⟩, fun h => by cases h⟩, (((((HB.out.2.2.setCell (p := ⟨w.heap.size + 1 + 1, 0, none⟩) (by show w.heap.size ≤ w.heap.size + 1 + 1; omega) _).setCell (p := ⟨w.heap.size + 1 + 1, 1, none⟩) (by show w.heap.size ≤ w.heap.size + 1 + 1; omega) _).setCell (p := ⟨w.heap.size + 1, 0, none⟩) (by show w.heap.size ≤ w.heap.size + 1; omega) _).setCell (p := ⟨w.heap.size + 1, 1, none⟩) (by show w.heap.size ≤ w.heap.size + 1; omega) _).setCell (p := ⟨w.heap.size + 1, 2, none⟩) (by show w.heap.size ≤ w.heap.size + 1; omega) _)⟩
      · have h1 : napF oo = ff * 4 := by rw [HZ.out.2.1, HZ.out.1]; rfl
        simp only; rw [← HE.out.2, h1]; omega
      · have h1 : napF oo = ff * 4 := by rw [HZ.out.2.1, HZ.out.1]; rfl
        have h2 : napS oo = ss := by rw [HZ.out.2.2, HZ.out.1]; rfl
        simp only; rw [← HE.out.2, h1, h2]; omega
      · simp only; rw [← HE.out.1]
    · by_cases hk0 : bb / 8 % 4 = 0
      · rw [hk0] at hm2
        have hkk : cfgB c i / 8 % 4 = 0 := by rw [← HE.out.1]; exact hk0
        go_enter Tryd.func17, Tryd.ntmps17
        go_wp2
        refine bodyPost_ret (ends17 (q := w.heap.size + 1) (f := 0) (l := 0) (b := 0) (ok := false) (box_eq (((HB.out.1.put 0 _).put 1 _).put 2 _) rfl) _ rfl rfl) rfl ?_
        exact ⟨⟨_, _, _, _, rfl, fun h => (by cases h), fun _ => ent_k0 hkk⟩, (((HB.out.2.2.setCell (p := ⟨w.heap.size + 1, 0, none⟩) (by show w.heap.size ≤ w.heap.size + 1; omega) _).setCell (p := ⟨w.heap.size + 1, 1, none⟩) (by show w.heap.size ≤ w.heap.size + 1; omega) _).setCell (p := ⟨w.heap.size + 1, 2, none⟩) (by show w.heap.size ≤ w.heap.size + 1; omega) _)⟩
      · have hk1 : bb / 8 % 4 = 1 := by omega
        rw [hk1] at hm2
        have hkk : cfgB c i / 8 % 4 = 1 := by rw [← HE.out.1]; exact hk1
        by_cases hi0 : i = 0
        · have t0 : decide (0 < i) = false := decide_eq_false (by omega)
          have hf0 : from' A i = 0 := if_pos hi0
          have HF : Hid (from' A i = 0) := Lib.hid hf0
          by_cases ho0 : oo = 0
          · have HC : Hid (¬ from' A i < own A i) := Lib.hid (by rw [← HE.out.2, hf0, ho0]; exact Nat.lt_irrefl 0)
            subst ho0
            clear hf0 hi0
            go_enter Tryd.func17, Tryd.ntmps17
            go_wp2
            refine bodyPost_ret (ends17 (q := w.heap.size + 1) (ok := false) (box_eq (((((HB.out.1.putFar (p := ⟨w.heap.size + 1 + 1, 0, none⟩) (by show w.heap.size + 1 ≠ w.heap.size + 1 + 1; omega) _).putFar (p := ⟨w.heap.size + 1 + 1, 1, none⟩) (by show w.heap.size + 1 ≠ w.heap.size + 1 + 1; omega) _).put 0 _).put 1 _).put 2 _) rfl) _ rfl rfl) rfl ?_
            exact ⟨⟨_, _, _, _, rfl, fun h => (by cases h), fun _ => (ent_k1 hkk).trans (if_neg HC.out)⟩, (((((HB.out.2.2.setCell (p := ⟨w.heap.size + 1 + 1, 0, none⟩) (by show w.heap.size ≤ w.heap.size + 1 + 1; omega) _).setCell (p := ⟨w.heap.size + 1 + 1, 1, none⟩) (by show w.heap.size ≤ w.heap.size + 1 + 1; omega) _).setCell (p := ⟨w.heap.size + 1, 0, none⟩) (by show w.heap.size ≤ w.heap.size + 1; omega) _).setCell (p := ⟨w.heap.size + 1, 1, none⟩) (by show w.heap.size ≤ w.heap.size + 1; omega) _).setCell (p := ⟨w.heap.size + 1, 2, none⟩) (by show w.heap.size ≤ w.heap.size + 1; omega) _)⟩
          · have HC : Hid (from' A i < own A i) := Lib.hid (by rw [← HE.out.2, hf0]; omega)
            have z3 : (0 : Int) < (oo : Int) := by omega
            have z4 : decide (0 < oo) = true := decide_eq_true (by omega)
            clear hf0 hi0
            go_enter Tryd.func17, Tryd.ntmps17
            go_wp2
            refine bodyPost_ret (ends17 (q := w.heap.size + 1) (ok := true) (box_eq (((((HB.out.1.putFar (p := ⟨w.heap.size + 1 + 1, 0, none⟩) (by show w.heap.size + 1 ≠ w.heap.size + 1 + 1; omega) _).putFar (p := ⟨w.heap.size + 1 + 1, 1, none⟩) (by show w.heap.size + 1 ≠ w.heap.size + 1 + 1; omega) _).put 0 _).put 1 _).put 2 _) rfl) _ rfl rfl) rfl ?_
            refine ⟨⟨_, _, _, _, rfl, fun _ => ⟨_, (ent_k1 hkk).trans (if_pos HC.out), ?_, ?_, ?_⟩, fun h => by cases h⟩, (((((HB.out.2.2.setCell (p := ⟨w.heap.size + 1 + 1, 0, none⟩) (by show w.heap.size ≤ w.heap.size + 1 + 1; omega) _).setCell (p := ⟨w.heap.size + 1 + 1, 1, none⟩) (by show w.heap.size ≤ w.heap.size + 1 + 1; omega) _).setCell (p := ⟨w.heap.size + 1, 0, none⟩) (by show w.heap.size ≤ w.heap.size + 1; omega) _).setCell (p := ⟨w.heap.size + 1, 1, none⟩) (by show w.heap.size ≤ w.heap.size + 1; omega) _).setCell (p := ⟨w.heap.size + 1, 2, none⟩) (by show w.heap.size ≤ w.heap.size + 1; omega) _)⟩
            · simp only; rw [HF.out]; first | rfl | omega
            · simp only; rw [← HE.out.2]; omega
            · simp only; rw [← HE.out.1]
        · have t0 : decide (0 < i) = true := decide_eq_true (by omega)
          obtain ⟨pp, hpp⟩ : ∃ pp, pp = own A (i - 1) := ⟨_, rfl⟩
          have hf0 : from' A i = pp := (if_neg hi0).trans hpp.symm
          have HF : Hid (from' A i = pp) := Lib.hid hf0
          have cb : W3.cell? ⟨w.heap.size, i - 1, none⟩ = some (.int .u64 (A (i - 1))) := HB1.out _ (by omega)
          have hm3 : bits BinOp.and IntKind.u64 (A (i - 1) : Int) 18014398509481983 = (pp : Nat) := by rw [hpp]; exact mask_eq (A (i - 1)) 54 18014398509481983 18014398509481984 (hA _) (by decide) (by decide)
          have hp54 : pp < 18014398509481984 := by rw [hpp]; exact Nat.mod_lt _ (by decide)
          have z5 : (0 : Int) ≤ (pp : Int) := Int.natCast_nonneg _
          have z6 : (pp : Int) < 18014398509481984 := by omega
          by_cases hlt : pp < oo
          · have HC : Hid (from' A i < own A i) := Lib.hid (by rw [← HE.out.2, hf0]; exact hlt)
            have z3 : (pp : Int) < (oo : Int) := by omega
            have z4 : decide (pp < oo) = true := decide_eq_true (by omega)
            clear hf0 hpp
            go_enter Tryd.func17, Tryd.ntmps17
            go_wp2
            refine bodyPost_ret (ends17 (q := w.heap.size + 1) (ok := true) (box_eq (((((HB.out.1.putFar (p := ⟨w.heap.size + 1 + 1, 0, none⟩) (by show w.heap.size + 1 ≠ w.heap.size + 1 + 1; omega) _).putFar (p := ⟨w.heap.size + 1 + 1, 1, none⟩) (by show w.heap.size + 1 ≠ w.heap.size + 1 + 1; omega) _).put 0 _).put 1 _).put 2 _) rfl) _ rfl rfl) rfl ?_
            refine ⟨⟨_, _, _, _, rfl, fun _ => ⟨_, (ent_k1 hkk).trans (if_pos HC.out), ?_, ?_, ?_⟩, fun h => by cases h⟩, (((((HB.out.2.2.setCell (p := ⟨w.heap.size + 1 + 1, 0, none⟩) (by show w.heap.size ≤ w.heap.size + 1 + 1; omega) _).setCell (p := ⟨w.heap.size + 1 + 1, 1, none⟩) (by show w.heap.size ≤ w.heap.size + 1 + 1; omega) _).setCell (p := ⟨w.heap.size + 1, 0, none⟩) (by show w.heap.size ≤ w.heap.size + 1; omega) _).setCell (p := ⟨w.heap.size + 1, 1, none⟩) (by show w.heap.size ≤ w.heap.size + 1; omega) _).setCell (p := ⟨w.heap.size + 1, 2, none⟩) (by show w.heap.size ≤ w.heap.size + 1; omega) _)⟩
            · simp only; rw [HF.out]; first | rfl | omega
            · simp only; rw [← HE.out.2]; omega
            · simp only; rw [← HE.out.1]
          · have HC : Hid (¬ from' A i < own A i) := Lib.hid (by rw [← HE.out.2, hf0]; exact hlt)
            have z4 : decide (pp < oo) = false := decide_eq_false (by omega)
            by_cases ho0 : oo = 0
            · subst ho0
              clear hf0 hpp
              go_enter Tryd.func17, Tryd.ntmps17
              go_wp2
              refine bodyPost_ret (ends17 (q := w.heap.size + 1) (ok := false) (box_eq (((((HB.out.1.putFar (p := ⟨w.heap.size + 1 + 1, 0, none⟩) (by show w.heap.size + 1 ≠ w.heap.size + 1 + 1; omega) _).putFar (p := ⟨w.heap.size + 1 + 1, 1, none⟩) (by show w.heap.size + 1 ≠ w.heap.size + 1 + 1; omega) _).put 0 _).put 1 _).put 2 _) rfl) _ rfl rfl) rfl ?_
              exact ⟨⟨_, _, _, _, rfl, fun h => (by cases h), fun _ => (ent_k1 hkk).trans (if_neg HC.out)⟩, (((((HB.out.2.2.setCell (p := ⟨w.heap.size + 1 + 1, 0, none⟩) (by show w.heap.size ≤ w.heap.size + 1 + 1; omega) _).setCell (p := ⟨w.heap.size + 1 + 1, 1, none⟩) (by show w.heap.size ≤ w.heap.size + 1 + 1; omega) _).setCell (p := ⟨w.heap.size + 1, 0, none⟩) (by show w.heap.size ≤ w.heap.size + 1; omega) _).setCell (p := ⟨w.heap.size + 1, 1, none⟩) (by show w.heap.size ≤ w.heap.size + 1; omega) _).setCell (p := ⟨w.heap.size + 1, 2, none⟩) (by show w.heap.size ≤ w.heap.size + 1; omega) _)⟩
            · have z3 : (0 : Int) < (oo : Int) := by omega
              clear hf0 hpp
              go_enter Tryd.func17, Tryd.ntmps17
              go_wp2
              refine bodyPost_ret (ends17 (q := w.heap.size + 1) (ok := false) (box_eq (((((HB.out.1.putFar (p := ⟨w.heap.size + 1 + 1, 0, none⟩) (by show w.heap.size + 1 ≠ w.heap.size + 1 + 1; omega) _).putFar (p := ⟨w.heap.size + 1 + 1, 1, none⟩) (by show w.heap.size + 1 ≠ w.heap.size + 1 + 1; omega) _).put 0 _).put 1 _).put 2 _) rfl) _ rfl rfl) rfl ?_
              exact ⟨⟨_, _, _, _, rfl, fun h => (by cases h), fun _ => (ent_k1 hkk).trans (if_neg HC.out)⟩, (((((HB.out.2.2.setCell (p := ⟨w.heap.size + 1 + 1, 0, none⟩) (by show w.heap.size ≤ w.heap.size + 1 + 1; omega) _).setCell (p := ⟨w.heap.size + 1 + 1, 1, none⟩) (by show w.heap.size ≤ w.heap.size + 1 + 1; omega) _).setCell (p := ⟨w.heap.size + 1, 0, none⟩) (by show w.heap.size ≤ w.heap.size + 1; omega) _).setCell (p := ⟨w.heap.size + 1, 1, none⟩) (by show w.heap.size ≤ w.heap.size + 1; omega) _).setCell (p := ⟨w.heap.size + 1, 2, none⟩) (by show w.heap.size ≤ w.heap.size + 1; omega) _)⟩
end Go.Proofs.YtcgklflflfemnaaDoor
