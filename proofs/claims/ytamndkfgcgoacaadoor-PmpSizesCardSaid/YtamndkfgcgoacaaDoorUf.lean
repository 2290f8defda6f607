/- Calls of the library that the kit's contracts answer: strings.Join, strings.Repeat, math/bits.TrailingZeros64. -/
import Derived.Test.YtamndkfgcgoacaaDoorSy
import Derived.Shelf.Strings.OnBuilder
import Derived.Shelf.Strings.Repeat
import Derived.Shelf.Spec.TrailingZeros
set_option linter.unusedVariables false
set_option linter.unusedSimpArgs false
namespace Go.Proofs.YtamndkfgcgoacaaDoor.Sx
open Go Go.RowKit
section
variable {P : Program} {e : Env} {S : Nat → Prop} {w0 w : World} {st : St}

/-- What is to be known of each. -/
def JoinIs (P : Program) (f : Nat) : Prop := ∀ (bk o c : Nat) (xs : List ByteArray) (sep : ByteArray) (w : World),
  (∀ (j : Nat) x, xs[j]? = some x → w.cell? ⟨bk, o + j, none⟩ = some (.string x)) → bk < w.heap.size → xs.length ≤ 140737488355328 → xs.length ≤ c →
  (Lib.join (xs.map (·.data.toList)) sep.data.toList).length ≤ 140737488355328 →
  Calls P f #[.slice (some ⟨bk, o, none⟩) xs.length c, .string sep] w fun e w' => e = .returned (.string ⟨(Lib.join (xs.map (·.data.toList)) sep.data.toList).toArray⟩) ∧ Below w.heap.size w w'
def ReptIs (P : Program) (f : Nat) : Prop := ∀ (s : ByteArray) (c : Nat) (w : World), c ≤ 9223372036854775807 → s.size * c ≤ 140737488355328 →
  Calls P f #[.string s, .int .i64 c] w fun e w' => e = .returned (.string ⟨(Lib.repeatL s.data.toList c).toArray⟩) ∧ Below w.heap.size w w'
def TzIs (P : Program) (ts : List Tab) (f : Nat) : Prop := ∀ (x : Nat) (w : World), x < 18446744073709551616 → TabsOk ts w →
  Calls P f #[.int .u64 x] w fun e w' => e = .returned (.int .i64 (Lib.ctz 64 x)) ∧ w' = w
def LibF.is (P : Program) (ts : List Tab) (f : Nat) : LibF → Prop
  | .join => JoinIs P f
  | .rept => ReptIs P f
  | .tz => TzIs P ts f

def bytesN (l : List Nat) : List UInt8 := l.map UInt8.ofNat
theorem strsOf_ok : ∀ {l : List V} {xs : List (List Nat)}, strsOf l = some xs → l = xs.map V.s
  | [], xs, h => by cases h; rfl
  | v :: r, xs, h => by
    unfold strsOf at h
    cases v with
    | s a =>
      simp only at h
      cases hr : strsOf r with
      | none => rw [hr] at h; cases h
      | some m =>
        rw [hr] at h; cases h
        rw [strsOf_ok hr]; rfl
    | _ => cases h
theorem joinB_ok (sep : List Nat) : ∀ xs : List (List Nat), Lib.join (xs.map bytesN) (bytesN sep) = bytesN (joinB xs sep)
  | [] => rfl
  | [x] => by simp [joinB, Lib.join_one]
  | x :: y :: r => by
    have ih := joinB_ok sep (y :: r)
    rw [List.map_cons] at ih
    rw [Lib.join_cons] at ih
    rw [List.map_cons, List.map_cons, Lib.join_cons]
    simp only [Lib.joinTail, List.map_cons, List.flatten_cons] at ih ⊢
    simp only [joinB, bytesN, List.map_append] at ih ⊢
    rw [← ih]
    simp [List.append_assoc]
theorem repB_ok (l : List Nat) : ∀ n, Lib.repeatL (bytesN l) n = bytesN (repB n l)
  | 0 => rfl
  | n + 1 => by
    have := repB_ok l n
    simp only [Lib.repeatL, repB, bytesN, List.map_append] at this ⊢
    rw [this]
theorem joinB_len (sep : List Nat) (xs : List (List Nat)) : (bytesN (joinB xs sep)).length = (joinB xs sep).length := by simp [bytesN]

theorem nonneg64_den {a : N} (h : nonneg64 a = true) (i : Nat → Int) : 0 ≤ a.den i ∧ a.den i ≤ 18446744073709551615 := by
  unfold nonneg64 at h
  split at h
  · rename_i lo hi hb
    rw [Bool.and_eq_true, ile_iff, ile_iff] at h
    have := N.bnd_ok i a lo hi hb
    omega
  · cases h

theorem ctz_and {x j : Nat} (hx : x < 18446744073709551616) (h0 : x ≠ 0) (hj : Lib.ctz 64 x = j) : x % 2 ^ (j + 1) = 2 ^ j ∧ j < 64 := by
  obtain ⟨m, hm, hk⟩ := Lib.ctzFrom_spec 64 x (by omega) hx
  have e : Lib.ctz 64 x = Lib.ctzFrom 64 x := by simp [Lib.ctz, h0]
  rw [← e, hj] at hm hk
  refine ⟨?_, hk⟩
  rw [hm, Nat.pow_succ]
  have : 2 ^ j * (2 * m + 1) = 2 ^ j + (2 ^ j * 2) * m := by rw [Nat.mul_add, Nat.mul_one, ← Nat.mul_assoc, Nat.add_comm]
  rw [this, Nat.add_mul_mod_self_left, Nat.mod_eq_of_lt]
  have := Nat.two_pow_pos j
  omega
theorem mod_inj {x i j : Nat} (hi : x % 2 ^ (i + 1) = 2 ^ i) (hj : x % 2 ^ (j + 1) = 2 ^ j) : i = j := by
  have key : ∀ {a b : Nat}, a < b → x % 2 ^ (a + 1) = 2 ^ a → x % 2 ^ (b + 1) = 2 ^ b → False := fun {a b} hab ha hb => by
    have h1 : x % 2 ^ (a + 1) = x % 2 ^ (b + 1) % 2 ^ (a + 1) := (Nat.mod_mod_of_dvd x (Nat.pow_dvd_pow 2 (by omega))).symm
    rw [hb, Nat.mod_eq_zero_of_dvd (Nat.pow_dvd_pow 2 (by omega))] at h1
    have := Nat.two_pow_pos a
    omega
  rcases Nat.lt_trichotomy i j with h | h | h
  · exact (key h hi hj).elim
  · exact h
  · exact (key h hj hi).elim
/-- The truth that is asked says just that. -/
theorem tzC_den {a : N} {x j : Nat} {i : Nat → Int} (hx : x < 18446744073709551616) (ha : a.den i = Int.ofNat x) (hj : j < 64) : (tzC a j).den i ≠ 0 ↔ x % 2 ^ (j + 1) = 2 ^ j := by
  have hp : 2 ^ (j + 1) ≤ 2 ^ 64 := Nat.pow_le_pow_right (by decide) (by omega)
  have hl : ∀ n : Nat, n < 18446744073709551616 → lowOf .u64 (Int.ofNat n) = n := fun n hn => by
    simp only [lowOf, span]; exact Nat.mod_eq_of_lt hn
  unfold tzC
  rw [mkEq_den, mkAr_den, ha]
  simp only [N.den, arF, ofLow, isSigned]
  have hpos := Nat.two_pow_pos (j + 1)
  rw [hl x hx, hl (2 ^ (j + 1) - 1) (by omega)]
  have h2 : Nat.land x (2 ^ (j + 1) - 1) = x % 2 ^ (j + 1) := Nat.and_two_pow_sub_one_eq_mod x (j + 1)
  rw [h2, bI_ne, ieq_iff]
  constructor
  · intro h; exact Int.ofNat.inj h
  · intro h; rw [h]
theorem tzWays_ok {a : N} {x : Nat} (hx : x < 18446744073709551616) (ha : a.den e.int = Int.ofNat x) (hh : Holds e.int st.pc) :
    ∀ (n j : Nat), n + j = 64 → j ≤ Lib.ctz 64 x → ∃ st', (V.n .i64 (.lit (Int.ofNat (Lib.ctz 64 x))), st') ∈ tzWays st a n j ∧ st'.nxt = st.nxt ∧ st'.hp = st.hp ∧ Holds e.int st'.pc
  | 0, j, hn, hle => by
    have hz : x = 0 := by
      rcases Nat.eq_zero_or_pos x with h | h
      · exact h
      · have := (ctz_and hx (by omega) rfl).2; omega
    subst hz
    have h64 : Lib.ctz 64 0 = 64 := rfl
    have hd : (mkEq a (.lit 0)).den e.int ≠ 0 := by
      rw [mkEq_den, bI_ne, ieq_iff, ha]; rfl
    unfold tzWays
    split
    · rename_i hdec
      have := (dec_ok hh hdec).2 hd
      cases this
    · refine ⟨forkPc st (mkEq a (.lit 0)) true, ?_, rfl, rfl, hh.add (by simp [hd])⟩
      rw [h64]; exact List.mem_singleton.2 rfl
  | n + 1, j, hn, hle => by
    have hj : j < 64 := by omega
    unfold tzWays
    have hc := tzC_den (i := e.int) hx ha hj
    have hit : x % 2 ^ (j + 1) = 2 ^ j → Lib.ctz 64 x = j := fun h => by
      have h0 : x ≠ 0 := by
        intro h0; subst h0
        rw [Nat.zero_mod] at h
        have := Nat.two_pow_pos j; omega
      exact mod_inj (ctz_and hx h0 rfl).1 h
    split
    · rename_i hdec
      have := hit (hc.1 ((dec_ok hh hdec).1 rfl))
      exact ⟨st, by rw [this]; exact List.mem_singleton.2 rfl, rfl, rfl, hh⟩
    · rename_i hdec
      have hne : Lib.ctz 64 x ≠ j := fun h => by
        have h0 : x ≠ 0 := fun h0 => by subst h0; have : Lib.ctz 64 0 = 64 := rfl; omega
        have h1 := (ctz_and hx h0 h).1
        have h2 := (dec_ok hh hdec).2 (hc.2 h1)
        cases h2
      exact tzWays_ok hx ha hh n (j + 1) (by omega) (by omega)
    · by_cases h : Lib.ctz 64 x = j
      · have h0 : x ≠ 0 := fun h0 => by subst h0; have : Lib.ctz 64 0 = 64 := rfl; omega
        exact ⟨forkPc st (tzC a j) true, by rw [h]; exact List.mem_cons_self .., rfl, rfl, hh.add (by simp [hc.2 (ctz_and hx h0 h).1])⟩
      · obtain ⟨st', h1, h2⟩ := tzWays_ok hx ha hh n (j + 1) (by omega) (by omega)
        exact ⟨st', List.mem_cons_of_mem _ h1, h2⟩

theorem cellsAt_lt (r : Rep e S w0 st.hp w) {i : Nat} {l : List V} (hl : cellsAt st i = some l) : e.blk i < w.heap.size := by
  unfold cellsAt at hl
  split at hl
  · rename_i l' t hb; exact Blk.at_lt (r.blk i _ hb) trivial
  · rename_i l' t z hb; exact Blk.at_lt (r.blk i _ hb) trivial
  · rename_i l' hb; exact Blk.at_lt (r.blk i _ hb) trivial
  · cases hl
theorem lib_ok {k : LibF} {ts : List Tab} {f : Nat} (hk : k.is P ts f) (ht : TabsOk ts w) {args : List V} {ways : List (V × St)} (hq : libV k args st = some ways) (r : Rep e S w0 st.hp w) (hh : Holds e.int st.pc) (ho : V.okL st.hp args)
    {R : Ending → World → Prop} (hR : ∀ v st', (v, st') ∈ ways → ∀ e' w', After e S w0 st e' st' w' → V.ok st'.hp v → R (.returned (v.den e')) w') : CallsIn (FW none) 0 P f (V.denL e args).toArray w R := by
  cases k with
  | join =>
    simp only [libV] at hq
    split at hq
    · rename_i v sep
      split at hq
      · rename_i n hn
        split at hq
        · rename_i l hl
          split at hq
          · rename_i xs hxs
            split at hq
            · rename_i hc
              cases hq
              rw [Bool.and_eq_true, Bool.and_eq_true] at hc
              have hN := Nat.le_of_ble_eq_true hc.1.2
              have hL := Nat.le_of_ble_eq_true hc.2
              have hcap := hc.1.1
              have hl2 := strsOf_ok hxs
              subst hl2
              have fin : ∀ (bk o c : Nat), v.den e = .slice (some ⟨bk, o, none⟩) n c → xs.length = n → n ≤ c → bk < w.heap.size → (∀ (j : Nat) x, (xs.map fun l => (⟨(bytesN l).toArray⟩ : ByteArray))[j]? = some x → w.cell? ⟨bk, o + j, none⟩ = some (.string x)) →
                  CallsIn (FW none) 0 P f (V.denL e [v, .s sep]).toArray w R := fun bk o c hv hlen hcc hbk hcells => by
                have hj := hk bk o c (xs.map fun l => ⟨(bytesN l).toArray⟩) ⟨(bytesN sep).toArray⟩ w hcells hbk (by rw [List.length_map]; omega) (by rw [List.length_map]; omega)
                have e1 : ((xs.map fun l => (⟨(bytesN l).toArray⟩ : ByteArray)).map (·.data.toList)) = xs.map bytesN := by
                  rw [List.map_map]; rfl
                rw [e1, joinB_ok, joinB_len, List.length_map, hlen] at hj
                have e2 : (V.denL e [v, .s sep]).toArray = #[.slice (some ⟨bk, o, none⟩) n c, .string ⟨(bytesN sep).toArray⟩] := by
                  simp only [V.denL, V.den, hv]; rfl
                rw [e2]
                refine (callsIn_wide (n := 0)).2 ((hj (by omega)).mono fun x w' ⟨hx, hb⟩ => ?_)
                subst hx
                exact hR _ _ (List.mem_singleton.2 rfl) e w' ⟨.refl _ _, r.past hb, hh⟩ trivial
              have row : ∀ (i off : Nat) (l : List V), cellsAt st i = some l → takeAt l off (n * 1) = some (xs.map V.s) → xs.length = n ∧ e.blk i < w.heap.size ∧ ∀ (j : Nat) x, (xs.map fun l => (⟨(bytesN l).toArray⟩ : ByteArray))[j]? = some x → w.cell? ⟨e.blk i, off + j, none⟩ = some (.string x) := fun i off l hc ht => by
                obtain ⟨t1, t2, _⟩ := takeAt_ok ht
                rw [List.length_map, Nat.mul_one] at t1
                refine ⟨t1, cellsAt_lt r hc, fun j x hx => (cellsAt_ok r hc).1 _ _ ?_⟩
                rw [List.getElem?_map] at hx
                cases hxj : xs[j]? with
                | none => rw [hxj] at hx; cases hx
                | some y =>
                  rw [hxj] at hx
                  simp only [Option.map_some, Option.some.injEq] at hx
                  have h1 : (xs.map V.s)[j]? = some (.s y) := by rw [List.getElem?_map, hxj]; rfl
                  rw [t2, List.getElem?_take, List.getElem?_drop] at h1
                  split at h1
                  · rw [denL_map, List.getElem?_map, h1, ← hx]; rfl
                  · cases h1
              cases v with
              | slc i off len cap =>
                simp only [lenOfV, Option.some.injEq] at hn
                subst hn
                simp only [firstV] at hl
                split at hl
                · rename_i l' hl'
                  obtain ⟨a1, a2, a3⟩ := row i off l' hl' hl
                  exact fin (e.blk i) off cap rfl a1 (Nat.le_of_ble_eq_true hcap) a2 a3
                · cases hl
              | slo i off eoff len =>
                simp only [lenOfV, Option.some.injEq] at hn
                subst hn
                simp only [firstV] at hl
                split at hl
                · rename_i l' hl'
                  obtain ⟨a1, a2, a3⟩ := row i off l' hl' hl
                  simp only [capFits] at hcap
                  split at hcap
                  · rename_i k hk'
                    have b1 := Nat.le_of_ble_eq_true hcap
                    have b2 := (roomV_ok r hk').1
                    exact fin (e.blk i) off (e.cap i - eoff) rfl a1 (by omega) a2 a3
                  · cases hcap
                · cases hl
              | _ => first | (simp [capFits] at hcap; done) | (simp [lenOfV] at hn; done)
            · cases hq
          · cases hq
        · cases hq
      · cases hq
    · cases hq
  | rept =>
    simp only [libV] at hq
    split at hq
    · rename_i l a
      split at hq
      · rename_i c hc
        split at hq
        · rename_i hb
          cases hq
          rw [Bool.and_eq_true] at hb
          have h1 := Nat.le_of_ble_eq_true hb.1
          have h2 := Nat.le_of_ble_eq_true hb.2
          have hv : a.den e.int = Int.ofNat c := known_ok hh hc
          have hj := hk ⟨(bytesN l).toArray⟩ c w (by omega) (by simp [ByteArray.size, bytesN]; omega)
          have e1 : (⟨(bytesN l).toArray⟩ : ByteArray).data.toList = bytesN l := rfl
          rw [e1, repB_ok] at hj
          have e2 : (V.denL e [.s l, .n .i64 a]).toArray = #[.string ⟨(bytesN l).toArray⟩, .int .i64 (Int.ofNat c)] := by
            simp only [V.denL, V.den, hv]; rfl
          rw [e2]
          refine (callsIn_wide (n := 0)).2 (hj.mono fun x w' ⟨hx, hb⟩ => ?_)
          subst hx
          exact hR _ _ (List.mem_singleton.2 rfl) e w' ⟨.refl _ _, r.past hb, hh⟩ trivial
        · cases hq
      · cases hq
    · cases hq
  | tz =>
    simp only [libV] at hq
    split at hq
    · rename_i a
      split at hq
      · rename_i hn
        cases hq
        have hd := nonneg64_den hn e.int
        obtain ⟨x, hx⟩ : ∃ x : Nat, a.den e.int = Int.ofNat x := ⟨(a.den e.int).toNat, by simp only [Int.ofNat_eq_natCast]; omega⟩
        have hlt : x < 18446744073709551616 := by rw [hx] at hd; simp only [Int.ofNat_eq_natCast] at hd; omega
        obtain ⟨st', hm, h1, h2, h3⟩ := tzWays_ok hlt hx hh 64 0 rfl (Nat.zero_le _)
        have e2 : (V.denL e [.n .u64 a]).toArray = #[.int .u64 x] := by
          simp only [V.denL, V.den, hx]; rfl
        rw [e2]
        refine (callsIn_wide (n := 0)).2 ((hk x w hlt ht).mono fun y w' ⟨hy, hw⟩ => ?_)
        subst hy; subst hw
        have hlat : Later e e st.hp st'.hp := by rw [h2]; exact .refl _ _
        exact hR _ st' hm e w' ⟨hlat, by rw [h2]; exact r, h3⟩ trivial
      · cases hq
    · cases hq

/-- .. where variables are read. -/
noncomputable def libEvT (ts : List Tab) (tab : List (Nat × LibF)) : Ev := fun rs f args st => match libEv tab rs f args st with
  | some l => match tabsIn ts st.hp ts with
    | true => some l
    | false => none
  | none => none
theorem findL_ok {f : Nat} {k : LibF} : ∀ {tab : List (Nat × LibF)}, findL f tab = some k → (f, k) ∈ tab
  | [], h => by cases h
  | (g, k') :: l, h => by
    simp only [findL] at h
    split at h
    · rename_i hb
      cases h
      rw [Nat.eq_of_beq_eq_true hb]; exact List.mem_cons_self ..
    · exact List.mem_cons_of_mem _ (findL_ok h)
theorem libEvT_ok {ts : List Tab} {tab : List (Nat × LibF)} (ht : ∀ x ∈ tab, x.2.is P ts x.1) : Snd P (tabGlob ts) (libEvT ts tab) := by
  intro rs f args st ways h e S w0 w _ r g hh ho R hR
  simp only [libEvT] at h
  split at h
  · rename_i l hl
    split at h
    · rename_i htab
      cases h
      simp only [libEv] at hl
      split at hl
      · rename_i k hk
        exact lib_ok (ht _ (findL_ok hk)) (tabsIn_ok r g htab) hl r hh ho hR
      · cases hl
    · cases h
  · cases h
theorem orEv_ok {glob : Nat → Option Nat} {a b : Ev} (ha : Snd P glob a) (hb : Snd P glob b) : Snd P glob (orEv a b) := by
  intro rs f args st ways h
  simp only [orEv] at h
  split at h
  · rename_i l hl
    cases h
    exact ha rs f args st ways hl
  · exact hb rs f args st ways h
end
end Go.Proofs.YtamndkfgcgoacaaDoor.Sx
