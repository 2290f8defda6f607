/- What stands of a reservation, act by act; rows of acts. -/
import Derived.Test.YtjdedgfbonlmkaaF
set_option linter.unusedVariables false
set_option linter.unusedSimpArgs false
namespace Go.Proofs.Ytjdedgfbonlmkaa
open Go.RowKit
section
variable {w w' : World} {B g N at' wd : Nat} {l : List UInt8}
theorem read_bad1 (h : Rm w B g N at' wd l) (a : Nat) (v : Int) (hv : ¬ (v = 1 ∨ v = 2 ∨ v = 4 ∨ v = 8)) : Calls Try.prog 26 #[.pointer (some ⟨B, 0, none⟩), .int .u64 a, .int .i64 v] w (ReadQ w) := by
  have HW := Lib.hid (fun wx => width_any v wx)
  rw [decide_eq_false hv] at HW
  clear h hv
  go_enter Try.func26, Try.ntmps26
  go_wp2_with (go_at_call 47; refine (HW.out _).mono ?_; rintro e w' ⟨rfl, rfl⟩)
  go_ret2
  exact ⟨_, _, rfl, 0, rfl⟩
theorem read_bad2 (h : Rm w B g N at' wd l) (a n : Nat) (hn : n = 1 ∨ n = 2 ∨ n = 4 ∨ n = 8) (ha : ¬ a + n ≤ N) : Calls Try.prog 26 #[.pointer (some ⟨B, 0, none⟩), .int .u64 a, .int .i64 n] w (ReadQ w) := by
  have HM := Lib.hid h
  have HT := Lib.hid (fun wx (hx : Rm wx B g N at' wd l) => there_any hx a n)
  rw [decide_eq_false ha] at HT
  clear h ha
  obtain rfl | rfl | rfl | rfl := hn
  all_goals
    go_enter Try.func26, Try.ntmps26
    go_wp2_with (first | (go_at_call 47; refine (width_any _ _).mono ?_; rintro e w' ⟨rfl, rfl⟩) | (go_at_call 37; refine (HT.out _ HM.out).mono ?_; rintro e w' ⟨rfl, rfl⟩))
    go_ret2
    exact ⟨_, _, rfl, 0, rfl⟩
theorem read_any (h : Rm w B g N at' wd l) (a : Nat) (v : Int) : Calls Try.prog 26 #[.pointer (some ⟨B, 0, none⟩), .int .u64 a, .int .i64 v] w (ReadQ w) := by
  by_cases hv : v = 1 ∨ v = 2 ∨ v = 4 ∨ v = 8
  · obtain ⟨n, hn, rfl⟩ : ∃ n : Nat, (n = 1 ∨ n = 2 ∨ n = 4 ∨ n = 8) ∧ v = n := ⟨v.toNat, by omega, by omega⟩
    by_cases ha : a + n ≤ N
    · exact read_ok h a n hn ha
    · exact read_bad2 h a n hn ha
  · exact read_bad1 h a v hv
end
/-- Is this reservation held? -/
def hB (at0 : Nat) (v : Int) (A W : Nat) : Bool := decide (0 < v ∧ A = at0 ∧ (W : Int) = v)
theorem hB_hit {at0 a n A W : Nat} {v : Int} (h0 : 0 < n) (h1 : a / 8 ≤ at0 / 8) (h2 : at0 / 8 ≤ (a + n - 1) / 8) : hB at0 v (gone (endB A a n) A) (gone (endB A a n) W) = false := by
  refine decide_eq_false ?_
  rintro ⟨p, q, r⟩
  by_cases hb : endB A a n = true
  · rw [hb, gone, if_pos rfl] at r; omega
  · have hb2 : endB A a n = false := by simpa using hb
    rw [hb2, gone, if_neg (by decide)] at q
    subst q
    exact absurd (of_decide_eq_false hb2) (by omega)
theorem hB_miss {at0 a n A W : Nat} {v : Int} (h : ¬ (0 < n ∧ a / 8 ≤ at0 / 8 ∧ at0 / 8 ≤ (a + n - 1) / 8)) : hB at0 v (gone (endB A a n) A) (gone (endB A a n) W) = hB at0 v A W := by
  by_cases hb : endB A a n = true
  · rw [hb]
    have e := of_decide_eq_true hb
    refine (decide_eq_false ?_).trans (decide_eq_false ?_).symm
    · rintro ⟨p, q, r⟩; rw [gone, if_pos rfl] at r; omega
    · rintro ⟨p, q, r⟩; subst q; omega
  · have hb2 : endB A a n = false := by simpa using hb
    rw [hb2]; rfl
/-- How things stand: the memory, and whether the reservation that is asked for is held. -/
structure St (w : World) (at0 : Nat) (v : Int) (hb : Bool) (wr : World) (B g : Nat) : Prop where
  rm : ∃ A W l, Rm wr B g 4096 A W l ∧ hB at0 v A W = hb
  bel : Below w.heap.size w wr
  lo : ∀ b, Own2 B g b → w.heap.size ≤ b
section
variable {w wr : World} {at0 : Nat} {v : Int} {hb : Bool} {B g : Nat}
theorem St.more (h : St w at0 v hb wr B g) (o : Obj) : St w at0 v hb (wr.alloc o) B g := by
  obtain ⟨⟨A, W, l, h1, h2⟩, h3, h4⟩ := h
  exact ⟨⟨A, W, l, h1.more o, h2⟩, h3.alloc h3.size o, h4⟩
theorem St.drawn (h : St w at0 v hb wr B g) (n : Nat) : St w at0 v hb (wr.drewN n) B g := by
  obtain ⟨⟨A, W, l, h1, h2⟩, h3, h4⟩ := h
  exact ⟨⟨A, W, l, h1.drawn n, h2⟩, below_drewN h3 n, h4⟩
theorem St.far (h : St w at0 v hb wr B g) : ¬ Own2 B g wr.heap.size := by
  obtain ⟨⟨A, W, l, h1, h2⟩, h3, h4⟩ := h
  have e1 := h1.box.inHeap
  have e2 := h1.mem.inHeap
  rintro (e | e) <;> omega
/-- What an act leaves. -/
def Next (w : World) (at0 : Nat) (v : Int) (hb : Bool) (B g : Nat) (wr w2 : World) : Prop := St w at0 v hb w2 B g ∧ Touch (Own2 B g) wr w2
theorem St.next (h : St w at0 v hb wr B g) {w2 : World} {A W : Nat} {l : List UInt8} {hb' : Bool} (hr : Rm w2 B g 4096 A W l) (ht : Touch (Own2 B g) wr w2) (e : hB at0 v A W = hb') : Next w at0 v hb' B g wr w2 :=
  ⟨⟨⟨A, W, l, hr, e⟩, h.bel.trans (ht.below h.lo h.bel.size), h.lo⟩, ht⟩
theorem St.same (h : St w at0 v hb wr B g) {w2 : World} (e : wr = w2) : Next w at0 v hb B g wr w2 := by subst e; exact ⟨h, Touch.refl _ _⟩
theorem held_st (h : St w at0 v hb wr B g) : Calls Try.prog 17 #[.pointer (some ⟨B, 0, none⟩), .int .u64 at0, .int .i64 v] wr fun e w' => e = .returned (.bool hb) ∧ wr = w' := by
  obtain ⟨A, W, l, h1, h2⟩ := h.rm
  refine (held_any h1 at0 v).mono fun e w' ⟨he, hw⟩ => ⟨he.trans (bool_eq h2), hw⟩
theorem read_st (h : St w at0 v hb wr B g) (a : Nat) (x : Int) : Calls Try.prog 26 #[.pointer (some ⟨B, 0, none⟩), .int .u64 a, .int .i64 x] wr fun e w' => ∃ (y : Int) (b : Bool), e = .returned (.tuple #[.int .u64 y, .bool b]) ∧ Next w at0 v hb B g wr w' := by
  obtain ⟨A, W, l, h1, h2⟩ := h.rm
  refine (read_any h1 a x).mono ?_
  rintro e w' ⟨y, b, rfl, n, rfl⟩
  exact ⟨y, b, rfl, h.next (h1.drawn n) ((Touch.refl _ _).drawn n) h2⟩
theorem bytes_st (h : St w at0 v hb wr B g) (a n : Nat) : Calls Try.prog 19 #[.pointer (some ⟨B, 0, none⟩), .int .u64 a, .int .u64 n] wr fun e w' => ∃ s x, e = .returned (.tuple #[.string s, .int .i64 x]) ∧ Next w at0 v hb B g wr w' := by
  obtain ⟨A, W, l, h1, h2⟩ := h.rm
  refine (bytes_any h1 a n).mono ?_
  rintro e w' ⟨s, x, rfl, hw⟩
  exact ⟨s, x, rfl, h.same hw⟩
theorem write_no (h : St w at0 v hb wr B g) (a x : Nat) (z : Int) (hx : x < 18446744073709551616) (hz : wrB 4096 a z = false) : Calls Try.prog 24 #[.pointer (some ⟨B, 0, none⟩), .int .u64 a, .int .u64 x, .int .i64 z] wr fun e w' => e = .returned (.bool false) ∧ Next w at0 v hb B g wr w' := by
  obtain ⟨A, W, l, h1, h2⟩ := h.rm
  have hw := write_any h1 a x z hx
  rw [hz, Bool.false_and] at hw
  refine hw.mono fun e w' ⟨he, hr, ht⟩ => ⟨he, h.next hr ht h2⟩
theorem write_yes (h : St w at0 v hb wr B g) (a x n : Nat) (hb' : Bool) (hx : x < 18446744073709551616) (hz : wrB 4096 a n = true) (hh : ∀ A W, hB at0 v A W = hb → hB at0 v (gone (endB A a n) A) (gone (endB A a n) W) = hb') : Calls Try.prog 24 #[.pointer (some ⟨B, 0, none⟩), .int .u64 a, .int .u64 x, .int .i64 n] wr fun e w' => e = .returned (.bool true) ∧ Next w at0 v hb' B g wr w' := by
  obtain ⟨A, W, l, h1, h2⟩ := h.rm
  have hw := write_any h1 a x n hx
  rw [hz, Bool.true_and, if_pos rfl, Int.toNat_natCast] at hw
  refine hw.mono fun e w' ⟨he, hr, ht⟩ => ⟨he, h.next hr ht (hh A W h2)⟩
theorem put_no (h : St w at0 v hb wr B g) (a : Nat) (s : ByteArray) (hs : s.size ≤ 100) (hz : ¬ a + s.size ≤ 4096) : Calls Try.prog 23 #[.pointer (some ⟨B, 0, none⟩), .int .u64 a, .string s] wr fun e w' => e = .returned (.int .i64 6) ∧ Next w at0 v hb B g wr w' := by
  obtain ⟨A, W, l, h1, h2⟩ := h.rm
  exact (put_bad h1 a s (by omega) hz).mono fun e w' ⟨he, hw⟩ => ⟨he, h.same hw⟩
theorem put_yes (h : St w at0 v hb wr B g) (a : Nat) (s : ByteArray) (hb' : Bool) (hz : a + s.size ≤ 4096) (hh : ∀ A W, hB at0 v A W = hb → hB at0 v (gone (endB A a s.size) A) (gone (endB A a s.size) W) = hb') : Calls Try.prog 23 #[.pointer (some ⟨B, 0, none⟩), .int .u64 a, .string s] wr fun e w' => e = .returned (.int .i64 0) ∧ Next w at0 v hb' B g wr w' := by
  obtain ⟨A, W, l, h1, h2⟩ := h.rm
  exact (put_good h1 a s hz).mono fun e w' ⟨he, hr, ht⟩ => ⟨he, h.next hr ht (hh A W h2)⟩
theorem reserve_no (h : St w at0 v hb wr B g) (a : Nat) (z : Int) (ha : a < 18446744073709551616) (hz : resB 4096 a z = false) : Calls Try.prog 27 #[.pointer (some ⟨B, 0, none⟩), .int .u64 a, .int .i64 z] wr fun e w' => e = .returned (.bool false) ∧ Next w at0 v hb B g wr w' := by
  obtain ⟨A, W, l, h1, h2⟩ := h.rm
  have hw := reserve_any h1 a z ha
  rw [hz] at hw
  exact hw.mono fun e w' ⟨he, hr, ht⟩ => ⟨he, h.next hr ht h2⟩
theorem reserve_yes (h : St w at0 v hb wr B g) (a : Nat) (z : Int) (hb' : Bool) (ha : a < 18446744073709551616) (hz : resB 4096 a z = true) (hh : hB at0 v a z.toNat = hb') : Calls Try.prog 27 #[.pointer (some ⟨B, 0, none⟩), .int .u64 a, .int .i64 z] wr fun e w' => e = .returned (.bool true) ∧ Next w at0 v hb' B g wr w' := by
  obtain ⟨A, W, l, h1, h2⟩ := h.rm
  have hw := reserve_any h1 a z ha
  rw [hz] at hw
  exact hw.mono fun e w' ⟨he, hr, ht⟩ => ⟨he, h.next hr ht hh⟩
theorem none0 (at0 : Nat) (v : Int) : hB at0 v 0 0 = false := decide_eq_false (by omega)
theorem drop_st (h : St w at0 v hb wr B g) : Calls Try.prog 28 #[.pointer (some ⟨B, 0, none⟩)] wr fun e w' => e = .returned (.tuple #[]) ∧ Next w at0 v false B g wr w' := by
  obtain ⟨A, W, l, h1, h2⟩ := h.rm
  exact (drop_any h1).mono fun e w' ⟨he, hr, ht⟩ => ⟨he, h.next hr ht (none0 _ _)⟩
theorem clear_st (h : St w at0 v hb wr B g) : Calls Try.prog 15 #[.pointer (some ⟨B, 0, none⟩)] wr fun e w' => e = .returned (.tuple #[]) ∧ Next w at0 v false B g wr w' := by
  obtain ⟨A, W, l, h1, h2⟩ := h.rm
  exact (clear_any h1).mono fun e w' ⟨he, hr, ht⟩ => ⟨he, h.next hr ht (none0 _ _)⟩
theorem new_st (w : World) (at0 : Nat) (v : Int) : Calls Try.prog 8 #[.int .i64 1] w fun e w' => e = .returned (.pointer (some ⟨w.heap.size + 1, 0, none⟩)) ∧ St w at0 v false w' (w.heap.size + 1) w.heap.size := by
  refine (new_one w).mono fun e w' ⟨he, hr, hbl, hs⟩ => ⟨he, ⟨_, _, _, hr, none0 _ _⟩, hbl, ?_⟩
  rintro b (e | e) <;> omega
end
theorem info9 : (Try.prog.info? 9).map (fun i => (i.zero, i.size, i.bytes)) = some (some (.string ⟨#[]⟩), 1, 16) := by kernel_rfl
/-- What is done. -/
structure Deed where
  k : Nat
  a : Nat
  v : Nat
  wd : Int
  s : ByteArray
/-- A row of deeds that stands in memory. -/
def IsDeeds (w : World) (a : Option Addr) (len : Nat) (l : List Deed) : Prop :=
  l.length = len ∧ ∀ k (f : Deed), l[k]? = some f → ∃ b off, a = some ⟨b, off, none⟩ ∧ b < w.heap.size ∧ w.cell? ⟨b, off + 5 * k, none⟩ = some (.int .u8 f.k) ∧ w.cell? ⟨b, off + 5 * k + 1, none⟩ = some (.int .u64 f.a) ∧ w.cell? ⟨b, off + 5 * k + 2, none⟩ = some (.int .u64 f.v) ∧ w.cell? ⟨b, off + 5 * k + 3, none⟩ = some (.int .i64 f.wd) ∧ w.cell? ⟨b, off + 5 * k + 4, none⟩ = some (.string f.s) ∧ f.k < 256 ∧ f.a < 18446744073709551616 ∧ f.v < 18446744073709551616 ∧ -9223372036854775808 ≤ f.wd ∧ f.wd ≤ 9223372036854775807
open Classical in
noncomputable def fewB (len : Nat) (l : List Deed) : Bool := decide (len ≤ 60 ∧ ∀ (j : Nat) (f : Deed), j < 70 → l[j]? = some f → f.s.size ≤ 100)
open Classical in
theorem fewB_yes {len : Nat} {l : List Deed} (h : len ≤ 60 ∧ ∀ (j : Nat) (f : Deed), j < 70 → l[j]? = some f → f.s.size ≤ 100) : fewB len l = true := decide_eq_true h
open Classical in
theorem fewB_no {len : Nat} {l : List Deed} (h : ¬ (len ≤ 60 ∧ ∀ (j : Nat) (f : Deed), j < 70 → l[j]? = some f → f.s.size ≤ 100)) : fewB len l = false := decide_eq_false h
open Classical in
theorem fewB_of {len : Nat} {l : List Deed} (h : fewB len l = true) : len ≤ 60 ∧ ∀ (j : Nat) (f : Deed), j < 70 → l[j]? = some f → f.s.size ≤ 100 := of_decide_eq_true h
theorem few_any (a : Option Addr) (len cap : Nat) (l : List Deed) (w : World) (hf : IsDeeds w a len l) : Calls Try.prog 9 #[.slice a len cap] w fun e w' => e = .returned (.bool (fewB len l)) ∧ w = w' := by
  have hlen := hf.1
  generalize hB : fewB len l = bb
  have HB := Lib.hid hB
  clear hB
  go_enter Try.func9, Try.ntmps9
  go_wp2
  go_loop [3] (fun i => ∃ k : Nat, k ≤ len ∧ k ≤ 70 ∧ i = .int .i64 k ∧ ∀ (j : Nat) (f : Deed), j < k → l[j]? = some f → f.s.size ≤ 100) (fun i => len - (intOf i).toNat)
  case atStart => exact ⟨0, Nat.zero_le _, by omega, rfl, fun j f h => by omega⟩
  case round =>
    obtain ⟨k, hk, hk2, rfl, hall⟩ := hrel
    have HA := Lib.hid hall
    clear hall
    have k1 : (0 : Int) ≤ (k : Int) := Int.natCast_nonneg _
    by_cases hlt : k < len
    · by_cases h110 : k < 70
      · obtain ⟨f, hk2⟩ : ∃ f, l[k]? = some f := ⟨_, List.getElem?_eq_getElem (by omega)⟩
        obtain ⟨b, off, rfl, hbb, c0, c1, c2, c3, c4, hn⟩ := hf.2 k f hk2
        have d1 : w.cell? ⟨b, off + k * 5 + 4, none⟩ = some (.string f.s) := by rw [Nat.mul_comm]; exact c4
        have k2 : (k : Int) < (len : Int) := by omega
        have HK := Lib.hid hk2
        clear c0 c1 c2 c3 c4 hk2 hf
        by_cases hs : 100 < f.s.size
        · go_wp2
          go_ret
          exact ⟨bool_eq (by rw [← HB.out]; exact (fewB_no fun h => by have := h.2 k f h110 HK.out; omega).symm), rfl⟩
        · go_wp2
          go_round
          case rel => exact ⟨k + 1, by omega, by omega, by go_num, fun j f' hj hf' => by
            by_cases e : j = k
            · subst e; have := HK.out; rw [hf'] at this; cases this; omega
            · exact HA.out j f' (by omega) hf'⟩
          case measure => simp [intOf]; omega
      · have h100 : ¬ len ≤ 60 := by omega
        clear hf
        go_wp2
        go_ret
        exact ⟨bool_eq (by rw [← HB.out]; exact (decide_eq_false (by omega)).trans (fewB_no fun h => by omega).symm), rfl⟩
    · obtain rfl : k = len := by omega
      clear hf
      by_cases h100 : k ≤ 60
      · go_wp2
        go_ret
        exact ⟨bool_eq (by rw [← HB.out]; exact (decide_eq_true (by omega)).trans (fewB_yes ⟨h100, fun j f _ hj => HA.out j f (by have := (List.getElem?_eq_some_iff.1 hj).1; omega) hj⟩).symm), rfl⟩
      · go_wp2
        go_ret
        exact ⟨bool_eq (by rw [← HB.out]; exact (decide_eq_false (by omega)).trans (fewB_no fun h => by omega).symm), rfl⟩
theorem few_true {len : Nat} {l : List Deed} (hl : l.length = len) (h : fewB len l = true) : len ≤ 60 ∧ ∀ (j : Nat) (f : Deed), l[j]? = some f → f.s.size ≤ 100 := by
  have h := fewB_of h
  exact ⟨h.1, fun j f hj => h.2 j f (by have := (List.getElem?_eq_some_iff.1 hj).1; omega) hj⟩
theorem IsDeeds.later {w wx : World} {a : Option Addr} {len : Nat} {l : List Deed} (hf : IsDeeds w a len l) (bel : Below w.heap.size w wx) : IsDeeds wx a len l := ⟨hf.1, fun k f hk => by
    obtain ⟨b, off, rfl, hbb, c0, c1, c2, c3, c4, hn⟩ := hf.2 k f hk
    exact ⟨b, off, rfl, Nat.lt_of_lt_of_le hbb bel.size, (bel.cell (by exact hbb)).trans c0, (bel.cell (by exact hbb)).trans c1, (bel.cell (by exact hbb)).trans c2, (bel.cell (by exact hbb)).trans c3, (bel.cell (by exact hbb)).trans c4, hn⟩⟩
end Go.Proofs.Ytjdedgfbonlmkaa
