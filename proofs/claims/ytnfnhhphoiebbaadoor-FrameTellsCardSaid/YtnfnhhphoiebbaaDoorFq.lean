/- The next step of a guest: Next. -/
import Derived.Test.YtnfnhhphoiebbaaDoorFp
set_option linter.unusedVariables false
set_option linter.unusedSimpArgs false
namespace Go.Proofs.YtnfnhhphoiebbaaDoor
open Go.RowKit
/-- What the first step of a guest from one on is. -/
def Nxt (l : List Win) (g st dn : Nat) : Prop := dn < tot l ∧ (fr l).getD ((st + dn) % tot l) 0 = g ∧ ∀ j, j < dn → (fr l).getD ((st + j) % tot l) 0 ≠ g
theorem nxt_some {l : List Win} {g st d : Nat} (hp : ∀ w ∈ l, 0 < w.2) (ht : 0 < tot l) (h : awayF g l 0 (st % tot l) = some d) : Nxt l g st d := by
  obtain ⟨_, h2, h3, h4⟩ := awayF_some g l 0 _ d hp h
  have hm := Nat.mod_add_div st (tot l)
  have key : ∀ j, st % tot l + j < tot l → (st + j) % tot l = st % tot l + j := fun j hj => by
    rw [Nat.add_mod, Nat.mod_eq_of_lt (a := j) (by omega), Nat.mod_eq_of_lt hj]
  simp only [Nat.sub_zero] at h3 h4
  refine ⟨by omega, by rw [key d (by omega)]; exact h3, fun j hj => ?_⟩
  rw [key j (by omega)]
  exact h4 _ (by omega) (Nat.zero_le _) (by omega)
theorem nxt_none {l : List Win} {g st f : Nat} (hp : ∀ w ∈ l, 0 < w.2) (ht : 0 < tot l) (h : awayF g l 0 (st % tot l) = none) (hf : awayF g l 0 0 = some f) : Nxt l g st (tot l - st % tot l + f) := by
  obtain ⟨_, h2, h3, h4⟩ := awayF_some g l 0 0 f hp hf
  have hn := awayF_none g l 0 _ h
  simp only [Nat.sub_zero, Nat.zero_add] at h2 h3 h4 hn
  have hr : st % tot l < tot l := Nat.mod_lt _ ht
  have hfp : f < st % tot l := by
    by_cases hc : f < st % tot l
    · exact hc
    · exact absurd h3 (hn f (by omega) (Nat.zero_le _) h2)
  have key : ∀ j, st % tot l + j < tot l → (st + j) % tot l = st % tot l + j := fun j hj => by
    rw [Nat.add_mod, Nat.mod_eq_of_lt (a := j) (by omega), Nat.mod_eq_of_lt hj]
  have key2 : ∀ j, tot l ≤ st % tot l + j → st % tot l + j < tot l + tot l → (st + j) % tot l = st % tot l + j - tot l := fun j h1 h2 => by
    have e : (st + j) % tot l = (st % tot l + j) % tot l := by rw [Nat.mod_add_mod]
    rw [e, Nat.mod_eq_sub_mod h1, Nat.mod_eq_of_lt (by omega)]
  refine ⟨by omega, ?_, fun j hj => ?_⟩
  · rw [key2 _ (by omega) (by omega), show st % tot l + (tot l - st % tot l + f) - tot l = f by omega]
    exact h3
  · by_cases hj2 : st % tot l + j < tot l
    · rw [key j hj2]
      exact hn _ (by omega) (Nat.zero_le _) hj2
    · rw [key2 j (by omega) (by omega)]
      exact h4 _ (Nat.zero_le _) (Nat.zero_le _) (by omega)
theorem away_to {w : World} {p wb wc bb bo bc : Nat} {l : List Win} (hq : Tb w p wb wc bb bo bc l) (g pl : Nat) (hg : g < 256) (hpl : pl ≤ 1024) (z : Int) (hz : z = (pl : Nat)) (o : Option Nat) (ho : awayF g l 0 pl = o) : Calls Tryd.prog 28 #[.pointer (some ⟨p, 0, none⟩), .int .u8 g, .int .u64 z] w fun e w' => e = .returned (awayV o) ∧ Below w.heap.size w w' := by
  subst hz
  subst ho
  exact away_any hq g pl hg hpl
theorem xones (b : Nat) (hb : b < 2 ^ 64) : (2 ^ 64 - 1) ^^^ b = 2 ^ 64 - 1 - b := by
  have h : (BitVec.allOnes 64 ^^^ BitVec.ofNat 64 b) = ~~~ (BitVec.ofNat 64 b) := by
    rw [BitVec.not_def]
  have h2 := congrArg BitVec.toNat h
  simp only [BitVec.toNat_xor, BitVec.toNat_allOnes, BitVec.toNat_not, BitVec.toNat_ofNat, Nat.mod_eq_of_lt hb] at h2
  exact h2
theorem xor_not (st : Nat) (h : st < 18446744073709551616) : bits BinOp.xor IntKind.u64 (if IntKind.u64.signed = true then -1 else IntKind.u64.max) (st : Int) = ((18446744073709551615 - st : Nat) : Int) := by
  have h1 := xones st h
  have e2 : (((st : Int)) % 2 ^ 64).toNat = st := by omega
  have e : bits BinOp.xor IntKind.u64 (if IntKind.u64.signed = true then -1 else IntKind.u64.max) (st : Int) = IntKind.u64.wrap (((18446744073709551615 ^^^ (((st : Int)) % 2 ^ 64).toNat : Nat) : Nat) : Int) := rfl
  rw [e, e2]
  have h2 : 18446744073709551615 ^^^ st = 18446744073709551615 - st := h1
  rw [h2]
  show ((18446744073709551615 - st : Nat) : Int) % 18446744073709551616 = _
  omega
section
variable {w : World} {p wb wc bb bo bc : Nat} {l : List Win}
theorem next_no (hq : Tb w p wb wc bb bo bc l) (g st : Nat) (hg : g < 256) (hc : cnt l g = 0) : Calls Tryd.prog 12 #[.pointer (some ⟨p, 0, none⟩), .int .u8 g, .int .u64 st] w fun e w' => e = .returned (.tuple #[.int .u64 0, .bool false]) ∧ Below w.heap.size w w' := by
  have hb := budget_any hq g hg
  rw [hc] at hb
  have HB := Lib.hid hb
  clear hq hb hc
  go_enter Tryd.func12, Tryd.ntmps12
  go_wp2_with (go_at_call 15; refine HB.out.mono ?_; rintro e w' ⟨rfl, hb⟩)
  go_ret2
  exact ⟨rfl, hb⟩
theorem next_ok (hq : Tb w p wb wc bb bo bc l) (hp : ∀ v ∈ l, 0 < v.2) (g st : Nat) (hg : g < 256) (hst : st < 1125899906842624) (hc : cnt l g ≠ 0) : Calls Tryd.prog 12 #[.pointer (some ⟨p, 0, none⟩), .int .u8 g, .int .u64 st] w fun e w' => ∃ dn, Nxt l g st dn ∧ e = .returned (.tuple #[.int .u64 (st + dn : Nat), .bool true]) ∧ Below w.heap.size w w' := by
  have c2 : w.cell? ⟨p, 2, none⟩ = some (.int .u64 (tot l)) := hq.box.read 2
  have t1 : (0 : Int) < (tot l : Int) := by have := hq.pos; omega
  have t2 : (tot l : Int) ≤ 1024 := by have := hq.top; omega
  have t3 : ((tot l : Int) == 0) = false := beq_eq_false_iff_ne.2 (by omega)
  have HQ := Lib.hid hq
  have HB := Lib.hid (budget_any hq g hg)
  have e0 : ((cnt l g : Int) == 0) = false := beq_eq_false_iff_ne.2 (by omega)
  have hmd : (st : Int) % (tot l : Int) = ((st % tot l : Nat) : Int) := rfl
  have hmp : st % tot l < tot l := Nat.mod_lt _ hq.pos
  have hmq : st % tot l ≤ 1024 := by have := hq.top; omega
  have LC := Lib.hid (fun wx (hb : Below w.heap.size w wx) => (hb.cell (p := ⟨p, 2, none⟩) hq.box.inHeap).trans c2)
  have r0 : (0 : Int) ≤ ((st % tot l : Nat) : Int) := Int.natCast_nonneg _
  have r1 : ((st % tot l : Nat) : Int) < (tot l : Int) := by omega
  have hx := xor_not st (by omega)
  have hxc : ((18446744073709551615 - st : Nat) : Int) = 18446744073709551615 - (st : Int) := by omega
  rw [hxc] at hx
  clear hxc
  cases hd : awayF g l 0 (st % tot l) with
  | some d =>
    have hN := nxt_some hp hq.pos hd
    have HA := Lib.hid (fun wx (hb : Below w.heap.size w wx) => away_to (HQ.out.over hb (Nat.le_refl _)) g (st % tot l) hg hmq _ hmd _ hd)
    have HN := Lib.hid hN
    have hdl : (d : Int) < (tot l : Int) := by have := hN.1; omega
    have hd0 : (0 : Int) ≤ (d : Int) := Int.natCast_nonneg _
    clear hq hd hc hN hmd hmp hmq
    go_enter Tryd.func12, Tryd.ntmps12
    go_wp2_with (first
      | (go_at_call 28; have Hx := H1; refine (HA.out _ H1.out).mono ?_; rintro e w2 ⟨rfl, hb⟩; have H2 := Lib.hid (H1.out.trans (hb.mono H1.out.size)); clear hb; unfold awayV; have c4 := LC.out _ H2.out)
      | (go_at_call 15; refine HB.out.mono ?_; rintro e w1 ⟨rfl, hb⟩; have H1 := Lib.hid hb; clear hb; have c3 := LC.out _ H1.out))
    go_ret2
    exact ⟨d, HN.out, rfl, H2.out⟩
  | none =>
    obtain ⟨f, hf⟩ := awayF_has (g := g) (l := l) (by omega)
    have hN := nxt_none hp hq.pos hd hf
    have HA := Lib.hid (fun wx (hb : Below w.heap.size w wx) => away_to (HQ.out.over hb (Nat.le_refl _)) g (st % tot l) hg hmq _ hmd _ hd)
    have HA0 := Lib.hid (fun wx (hb : Below w.heap.size w wx) => away_to (HQ.out.over hb (Nat.le_refl _)) g 0 hg (by omega) 0 rfl _ hf)
    have HN := Lib.hid hN
    have hdl : ((tot l - st % tot l + f : Nat) : Int) < (tot l : Int) := by have := hN.1; omega
    have hd0 : ((tot l - st % tot l + f : Nat) : Int) = (tot l : Int) - ((st % tot l : Nat) : Int) + (f : Int) := by omega
    have hf0 : (0 : Int) ≤ (f : Int) := Int.natCast_nonneg _
    rw [← hmd] at r0 r1 hd0
    have HD := Lib.hid hd0
    rw [hd0] at hdl
    clear hq hd hc hN hmp hmq hf hd0 hmd
    generalize hdd : (tot l - st % tot l + f : Nat) = dn at HD HN
    clear hdd
    go_enter Tryd.func12, Tryd.ntmps12
    go_wp2_with (first
      | (go_at_call 28; have Hx := H2; refine (HA0.out _ H2.out).mono ?_; rintro e w3 ⟨rfl, hb⟩; have H3 := Lib.hid (H2.out.trans (hb.mono H2.out.size)); clear hb; unfold awayV; have c5 := LC.out _ H3.out)
      | (go_at_call 28; have Hx := H1; refine (HA.out _ H1.out).mono ?_; rintro e w2 ⟨rfl, hb⟩; have H2 := Lib.hid (H1.out.trans (hb.mono H1.out.size)); clear hb; unfold awayV; have c4 := LC.out _ H2.out)
      | (go_at_call 15; refine HB.out.mono ?_; rintro e w1 ⟨rfl, hb⟩; have H1 := Lib.hid hb; clear hb; have c3 := LC.out _ H1.out))
    have hz : ((st + dn : Nat) : Int) = (st : Int) + ((tot l : Int) - (st : Int) % (tot l : Int) + (f : Int)) := by rw [Int.natCast_add, HD.out]
    go_ret2
    refine ⟨dn, HN.out, ?_, H3.out⟩
    rw [hz]
    rfl
end
end Go.Proofs.YtnfnhhphoiebbaaDoor
