/- CodecTakes' body. -/
import Derived.Test.YtddacegeepgmmaaJ
import Derived.Test.YtddacegeepgmmaaB
set_option linter.unusedVariables false
set_option linter.unusedSimpArgs false
namespace Go.Proofs.Ytddacegeepgmmaa
open Go.RowKit

theorem Src.only {w w' : World} {X S0 b : Nat} {s : ByteArray} {p : Nat} {t : Bool} (h : Src w X S0 s p t) (k : Only b w w') (hX : X ≠ b) (hS : S0 ≠ b) : Src w' X S0 s p t := ⟨h.box.only k hX, h.txt.only k hS, h.ne, h.le⟩
theorem Src.drawn {w : World} {X S0 : Nat} {s : ByteArray} {p : Nat} {t : Bool} (h : Src w X S0 s p t) (n : Nat) : Src (w.drewN n) X S0 s p t := ⟨h.box.drawn n, h.txt.drawn n, h.ne, h.le⟩
theorem Ref.only {w w' : World} {Y b : Nat} {s : ByteArray} {p : Nat} {t : Bool} (h : Ref w Y s p t) (k : Only b w w') (hY : Y ≠ b) : Ref w' Y s p t := ⟨h.box.only k hY, h.le⟩
theorem Ref.drawn {w : World} {Y : Nat} {s : ByteArray} {p : Nat} {t : Bool} (h : Ref w Y s p t) (n : Nat) : Ref (w.drewN n) Y s p t := ⟨h.box.drawn n, h.le⟩
/-- The two sources, side by side. -/
structure Both (w wr : World) (X S0 Y : Nat) (s : ByteArray) (p : Nat) (t : Bool) : Prop where
  src : Src wr X S0 s p t
  ref : Ref wr Y s p t
  bel : Below w.heap.size w wr
  hX : w.heap.size ≤ X
  hY : w.heap.size ≤ Y
  ne1 : X ≠ Y
  ne2 : S0 ≠ Y
/-- The program's source went on. -/
structure Half (w wr : World) (X S0 Y : Nat) (s : ByteArray) (p : Nat) (t : Bool) (p' : Nat) (t' : Bool) : Prop where
  src : Src wr X S0 s p' t'
  ref : Ref wr Y s p t
  bel : Below w.heap.size w wr
  hX : w.heap.size ≤ X
  hY : w.heap.size ≤ Y
  ne1 : X ≠ Y
  ne2 : S0 ≠ Y
theorem Both.x {w wr w2 : World} {X S0 Y : Nat} {s : ByteArray} {p p' : Nat} {t t' : Bool} (h : Both w wr X S0 Y s p t) (hs : Src w2 X S0 s p' t') (ho : Only X wr w2) : Half w w2 X S0 Y s p t p' t' :=
  ⟨hs, h.ref.only ho h.ne1.symm, h.bel.trans (ho.below h.hX h.bel.size), h.hX, h.hY, h.ne1, h.ne2⟩
theorem Half.y {w wr w2 : World} {X S0 Y : Nat} {s : ByteArray} {p p' : Nat} {t t' : Bool} (h : Half w wr X S0 Y s p t p' t') (hs : Ref w2 Y s p' t') (ho : Only Y wr w2) : Both w w2 X S0 Y s p' t' :=
  ⟨h.src.only ho h.ne1 h.ne2, hs, h.bel.trans (ho.below h.hY h.bel.size), h.hX, h.hY, h.ne1, h.ne2⟩
theorem Both.drawn {w wr : World} {X S0 Y : Nat} {s : ByteArray} {p : Nat} {t : Bool} (h : Both w wr X S0 Y s p t) (n : Nat) : Both w (wr.drewN n) X S0 Y s p t :=
  ⟨h.src.drawn n, h.ref.drawn n, below_drewN h.bel n, h.hX, h.hY, h.ne1, h.ne2⟩
section
variable {w : World} {X S0 : Nat} {s : ByteArray} {p : Nat} {t : Bool}
theorem at_q (h : Src w X S0 s p t) : Calls Try.prog 17 #[.pointer (some ⟨X, 0, none⟩)] w fun e w' => e = .returned (.int .i64 p) ∧ w' = w := (at_any h).mono fun _ _ h => ⟨h.1, h.2.symm⟩
theorem left_q (h : Src w X S0 s p t) : Calls Try.prog 18 #[.pointer (some ⟨X, 0, none⟩)] w fun e w' => e = .returned (.int .i64 (s.size - p : Int)) ∧ w' = w := (left_any h).mono fun _ _ h => ⟨h.1, h.2.symm⟩
theorem fail_q (h : Src w X S0 s p t) : Calls Try.prog 19 #[.pointer (some ⟨X, 0, none⟩)] w fun e w' => e = .returned (.int .i64 (failN t)) ∧ w' = w := (fail_any h).mono fun _ _ h => ⟨h.1, h.2.symm⟩
theorem end_q (h : Src w X S0 s p t) : Calls Try.prog 21 #[.pointer (some ⟨X, 0, none⟩)] w fun e w' => e = .returned (.int .i64 (endN t (s.size - p : Int))) ∧ w' = w := (end_any h).mono fun _ _ h => ⟨h.1, h.2.symm⟩
end
structure Ask where
  raw : Bool
  v : Int
/-- A row of asks that stands in memory. -/
def IsAsks (w : World) (a : Option Addr) (len : Nat) (l : List Ask) : Prop :=
  l.length = len ∧ ∀ k (f : Ask), l[k]? = some f → ∃ b off, a = some ⟨b, off, none⟩ ∧ b < w.heap.size ∧ w.cell? ⟨b, off + 2 * k, none⟩ = some (.bool f.raw) ∧ w.cell? ⟨b, off + 2 * k + 1, none⟩ = some (.int .i64 f.v)
theorem takes_long (a : Option Addr) (len cap : Nat) (s : ByteArray) (h : 3000 < s.size) (w : World) : Calls Try.prog 4 #[.string s, .slice a len cap] w (Yes w) := by
  go_enter Try.func4, Try.ntmps4
  go_wp2_with (go_at_call 7; refine (awake_any _).mono ?_; rintro e w' ⟨rfl, bel⟩)
  go_ret
  exact ⟨rfl, bel⟩
theorem takes_long2 (a : Option Addr) (len cap : Nat) (s : ByteArray) (h : 100 < len) (h2 : s.size ≤ 3000) (w : World) : Calls Try.prog 4 #[.string s, .slice a len cap] w (Yes w) := by
  go_enter Try.func4, Try.ntmps4
  go_wp2_with (go_at_call 7; refine (awake_any _).mono ?_; rintro e w' ⟨rfl, bel⟩)
  go_ret
  exact ⟨rfl, bel⟩
set_option maxHeartbeats 3200000 in
set_option maxRecDepth 20000 in
theorem takes_any (a : Option Addr) (len cap : Nat) (l : List Ask) (s : ByteArray) (hl : len ≤ 100) (hs : s.size ≤ 3000) (w : World) (hf : IsAsks w a len l) : Calls Try.prog 4 #[.string s, .slice a len cap] w (Yes w) := by
  have hlen := Lib.hid hf.1
  have HF := Lib.hid hf
  clear hf
  go_enter Try.func4, Try.ntmps4
  go_wp2_with (go_at_call 12; refine (of_any s _).mono ?_; rintro e w1 ⟨rfl, hsrc, hbel, hsz⟩)
  have hB : Both w (w1.alloc (.cells #[.string s, .int .i64 0, .bool false] 37)) (w.heap.size + 1) w.heap.size w1.heap.size s 0 false := by
    refine ⟨⟨hsrc.box.more _, hsrc.txt.more _, hsrc.ne, hsrc.le⟩, ⟨Box.made w1 37 _, Nat.zero_le _⟩, hbel.alloc hbel.size _, by omega, hbel.size, by omega, by omega⟩
  generalize w1.alloc (.cells #[.string s, .int .i64 0, .bool false] 37) = w2 at hB ⊢
  have hY := hsz
  generalize hYY : w1.heap.size = Y at hB ⊢
  generalize w.heap.size + 1 = X at hB ⊢
  generalize hSS : w.heap.size = S0 at hB ⊢
  clear hsrc hbel hsz hY hYY
  go_loopw [7] (fun i wr => ∃ (k p : Nat) (t : Bool), k ≤ len ∧ i = .int .i64 k ∧ Both w wr X S0 Y s p t) (fun i _ => len - (intOf i).toNat)
  case atStart => exact ⟨0, 0, false, Nat.zero_le _, rfl, hB⟩
  case round =>
    obtain ⟨k, p, t, hk, rfl, hb⟩ := hrel
    by_cases hlt : k < len
    · obtain ⟨f, hk2⟩ : ∃ f, l[k]? = some f := ⟨_, List.getElem?_eq_getElem (by have := hlen.out; omega)⟩
      obtain ⟨b, off, rfl, hbb, c0, c1⟩ := HF.out.2 k f hk2
      have later : ∀ wx, Below w.heap.size w wx → wx.cell? ⟨b, off + k * 2, none⟩ = some (.bool f.raw) ∧ wx.cell? ⟨b, off + k * 2 + 1, none⟩ = some (.int .i64 f.v) := fun wx bel => by
        rw [Nat.mul_comm]
        exact ⟨(bel.cell (by exact hbb)).trans c0, (bel.cell (by exact hbb)).trans c1⟩
      obtain ⟨d0, d1⟩ := later wr hb.bel
      have LA := Lib.hid later
      have hpt := text_size s p (wid f.v) t (wid_bd f.v).2
      have k1 : (0 : Int) ≤ (k : Int) := Int.natCast_nonneg _
      have k2 : (k : Int) < (len : Int) := by omega
      clear c0 c1 later hk2 HF
      rcases f with ⟨raw, v⟩
      cases raw
      · have HB := Lib.hid hb
        clear hb
        go_wp2_with (first | (go_at_call 15; refine (take_any HB.out.src (by omega) v).mono ?_; rintro e w3 ⟨rfl, hs3, ho3⟩; have hh := HB.out.x hs3 ho3; obtain ⟨e0, e1⟩ := LA.out _ hh.bel; have HH := Lib.hid hh; clear hs3 ho3 hh) | (go_at_call 16; refine (rtake_any HH.out.ref (by omega) v).mono ?_; rintro e w4 ⟨rfl, hs4, ho4⟩; have hc := HH.out.y hs4 ho4; have HC := Lib.hid hc; clear hs4 ho4 hc))
        have y1 := HC.out.ref.box.read 1
        have hp := HC.out.ref.le
        generalize textP s p (wid v) t = p' at HC y1 hp
        generalize bad s p (wid v) t = t' at HC y1
        go_quiet ((first | (go_at_call 17; exact Calls.quiet_of_same (at_q (HC.out.src.drawn _))) | (go_at_call 18; exact Calls.quiet_of_same (left_q (HC.out.src.drawn _))) | (go_at_call 19; exact Calls.quiet_of_same (fail_q (HC.out.src.drawn _))) | (go_at_call 20; exact Calls.quiet_of_same (rfail_any (HC.out.ref.drawn _))) | (go_at_call 21; exact Calls.quiet_of_same (end_q (HC.out.src.drawn _))) | (go_at_call 22; exact Calls.quiet_of (rend_any (HC.out.ref.drawn _) (by omega)))))
        go_wp2
        go_roundw
        case rel => exact ⟨k + 1, p', t', by omega, by go_num, HC.out.drawn nq⟩
        case measure => simp [intOf]; omega
      · have HB := Lib.hid hb
        clear hb
        go_wp2_with (first | (go_at_call 13; refine (text_any HB.out.src (by omega) v).mono ?_; rintro e w3 ⟨rfl, hs3, ho3⟩; have hh := HB.out.x hs3 ho3; obtain ⟨e0, e1⟩ := LA.out _ hh.bel; have HH := Lib.hid hh; clear hs3 ho3 hh) | (go_at_call 14; refine (rtext_any HH.out.ref (by omega) v).mono ?_; rintro e w4 ⟨rfl, hs4, ho4⟩; have hc := HH.out.y hs4 ho4; have HC := Lib.hid hc; clear hs4 ho4 hc))
        have y1 := HC.out.ref.box.read 1
        have hp := HC.out.ref.le
        generalize textP s p v.toNat t = p' at HC y1 hp
        generalize bad s p v.toNat t = t' at HC y1
        go_quiet ((first | (go_at_call 17; exact Calls.quiet_of_same (at_q (HC.out.src.drawn _))) | (go_at_call 18; exact Calls.quiet_of_same (left_q (HC.out.src.drawn _))) | (go_at_call 19; exact Calls.quiet_of_same (fail_q (HC.out.src.drawn _))) | (go_at_call 20; exact Calls.quiet_of_same (rfail_any (HC.out.ref.drawn _))) | (go_at_call 21; exact Calls.quiet_of_same (end_q (HC.out.src.drawn _))) | (go_at_call 22; exact Calls.quiet_of (rend_any (HC.out.ref.drawn _) (by omega)))))
        go_wp2
        go_roundw
        case rel => exact ⟨k + 1, p', t', by omega, by go_num, HC.out.drawn nq⟩
        case measure => simp [intOf]; omega
    · have HB := Lib.hid hb
      clear hb
      go_wp2_with (go_at_call 7; refine (awake_any _).mono ?_; rintro e w9 ⟨rfl, bel9⟩)
      go_ret
      exact ⟨rfl, HB.out.bel.trans (bel9.mono HB.out.bel.size)⟩
end Go.Proofs.Ytddacegeepgmmaa
