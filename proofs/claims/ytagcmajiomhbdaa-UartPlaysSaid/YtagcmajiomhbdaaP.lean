/- A line and the document's, side by side. -/
import Derived.Test.YtagcmajiomhbdaaN
import Derived.Test.YtagcmajiomhbdaaO
set_option linter.unusedVariables false
set_option linter.unusedSimpArgs false
namespace Go.Proofs.Ytagcmajiomhbdaa
open Go.RowKit
def RfP (C : Nat) (s : US) (w : World) (K : Nat → Prop) : Prop := Rf w C s ∧ K C
theorem RfP.kept (C : Nat) (s : US) : Kept (RfP C s) := fun h ht hd => ⟨Box.touch h.1 ht (hd C h.2), h.2⟩
def Duo (ex : List (Nat × TypeId × Array Value)) (w wr : World) (B : Nat) (s : US) (C : Nat) (s' : US) : Prop := Pair (UaP B s) (RfP C s') ex w wr
section
variable {w wr w2 : World} {B C : Nat} {s s' s2 : US} {ex : List (Nat × TypeId × Array Value)}
theorem Duo.below (h : Duo ex w wr B s C s') (hb : Below wr.heap.size wr w2) : Duo ex w w2 B s C s' := Pair.below (UaP.kept _ _) (RfP.kept _ _) h hb
theorem Duo.with (h : Duo ex w wr B s C s') (t : TypeId) (cs : Array Value) : Duo ((wr.heap.size, t, cs) :: ex) w (wr.alloc (.cells cs t)) B s C s' := Pair.with (UaP.kept _ _) (RfP.kept _ _) h t cs
theorem Duo.bel (h : Duo ex w wr B s C s') : Below w.heap.size w wr := Pair.bel h
theorem Duo.drawn1 (h : Duo ex w wr B s C s') : Duo ex w wr.drew B s C s' := Pair.drawn (UaP.kept _ _) (RfP.kept _ _) h 1
theorem Duo.head {x : Nat} {t : TypeId} {cs : Array Value} (h : Duo ((x, t, cs) :: ex) w wr B s C s') : Box wr x t cs := Pair.head h
theorem Duo.rest {x : Nat × TypeId × Array Value} (h : Duo (x :: ex) w wr B s C s') : Duo ex w wr B s C s' := Pair.rest h
theorem Duo.ok (h : Duo ex w wr B s C s') : s.ok := by obtain ⟨K, K', h⟩ := h; exact Ua.ok h.p
theorem Duo.rf (h : Duo ex w wr B s C s') : Rf wr C s' := by obtain ⟨K, K', h⟩ := h; exact h.q.1
theorem Duo.wrote {p : Program} {f : Nat} {args : Array Value} {R : Ending → Prop} (h : Duo ex w wr B s C s') (c : ∀ K, Ua wr B s K → Calls p f args wr fun e w2 => R e ∧ Wr K B s2 wr w2) : Calls p f args wr fun e w2 => R e ∧ Duo ex w w2 B s2 C s' :=
  Pair.leftOf (RfP.kept _ _) h fun K hu => (c K hu).mono fun e w2 hz => hz
theorem Duo.ref {p : Program} {f : Nat} {args : Array Value} {R : Ending → Prop} (h : Duo ex w wr B s C s') (c : Calls p f args wr fun e w2 => R e ∧ Rz C s2 wr w2) : Calls p f args wr fun e w2 => R e ∧ Duo ex w w2 B s C s2 :=
  (Pair.leftOf (P := RfP C s') (P2 := RfP C s2) (Q := UaP B s) (UaP.kept _ _) (Pair.symm h) fun K hu => c.mono fun e w2 hz => ⟨hz.1, ⟨hz.2.1, .inl hu.2⟩, hz.2.2.mono fun b hb => hb ▸ hu.2⟩).mono fun e w2 hz => ⟨hz.1, Pair.symm hz.2⟩
theorem Duo.read (h : Duo ex w wr B s C s') (off : Nat) (v : Int) : Calls Try.prog 21 #[.pointer (some ⟨B, 0, none⟩), .int .u64 off, .int .i64 v] wr fun e w2 => e = .returned (.tuple #[.int .u64 (s.Rv off v), .bool (okR off v)]) ∧ Duo ex w w2 B (s.Rd off v) C s' :=
  h.wrote fun K hu => (Read_any hu off v).mono fun e w2 hz => ⟨hz.1, Wr.ofRead2 hz.2.1 hz.2.2⟩
theorem Duo.write (h : Duo ex w wr B s C s') (off : Nat) (v : Int) (x : Nat) (hn : s.out.length ≤ 1000000) : Calls Try.prog 18 #[.pointer (some ⟨B, 0, none⟩), .int .u64 off, .int .i64 v, .int .u64 x] wr fun e w2 => e = .returned (.bool (okR off v)) ∧ Duo ex w w2 B (s.Wt off v x) C s' :=
  h.wrote fun K hu => Write_any hu off v x hn
theorem Duo.input (h : Duo ex w wr B s C s') (c : UInt8) : Calls Try.prog 19 #[.pointer (some ⟨B, 0, none⟩), .int .u8 c.toNat] wr fun e w2 => e = .returned (.bool (decide (s.q.length ≠ 16))) ∧ Duo ex w w2 B (s.inp c) C s' :=
  h.wrote fun K hu => input_any hu c
theorem Duo.take (h : Duo ex w wr B s C s') : Calls Try.prog 16 #[.pointer (some ⟨B, 0, none⟩)] wr fun e w2 => e = .returned (.string (str s.out)) ∧ Duo ex w w2 B { s with out := [] } C s' :=
  h.wrote fun K hu => Take_any hu
theorem Duo.dump (h : Duo ex w wr B s C s') : Calls Try.prog 14 #[.pointer (some ⟨B, 0, none⟩)] wr fun e w2 => e = .returned (.string (str (s.regs ++ s.q))) ∧ Duo ex w w2 B s C s' := by
  have h' := h
  obtain ⟨K, K', h⟩ := h
  exact (dump_any h.p).mono fun e w2 hz => ⟨hz.1, h'.below hz.2⟩
theorem Duo.level (h : Duo ex w wr B s C s') : Calls Try.prog 11 #[.pointer (some ⟨B, 0, none⟩)] wr fun e w2 => e = .returned (.bool (decide (s.asks ≠ 1))) ∧ wr = w2 := by
  obtain ⟨K, K', h⟩ := h
  obtain ⟨o, q, hv⟩ := h.p
  exact level_any hv
theorem Duo.waiting (h : Duo ex w wr B s C s') : Calls Try.prog 13 #[.pointer (some ⟨B, 0, none⟩)] wr fun e w2 => e = .returned (.int .i64 s.q.length) ∧ wr = w2 := by
  obtain ⟨K, K', h⟩ := h
  obtain ⟨o, q, hv⟩ := h.p
  exact waiting_any hv
theorem Duo.rread (h : Duo ex w wr B s C s') (ok : s'.ok) (off : Nat) (v : Int) : Calls Try.prog 24 #[.pointer (some ⟨C, 0, none⟩), .int .u64 off, .int .i64 v] wr fun e w2 => e = .returned (.tuple #[.int .u64 (s'.Rv off v), .bool (okR off v)]) ∧ Duo ex w w2 B s C (s'.Rd off v) := h.ref (rread_any h.rf ok off v)
theorem Duo.rwrite (h : Duo ex w wr B s C s') (ok : s'.ok) (off : Nat) (v : Int) (x : Nat) (hn : s'.out.length ≤ 1000000) : Calls Try.prog 25 #[.pointer (some ⟨C, 0, none⟩), .int .u64 off, .int .i64 v, .int .u64 x] wr fun e w2 => e = .returned (.bool (okR off v)) ∧ Duo ex w w2 B s C (s'.Wt off v x) := h.ref (rwrite_any h.rf ok off v x hn)
theorem Duo.rinput (h : Duo ex w wr B s C s') (ok : s'.ok) (c : UInt8) : Calls Try.prog 26 #[.pointer (some ⟨C, 0, none⟩), .int .u8 c.toNat] wr fun e w2 => e = .returned (.bool (decide (s'.q.length ≠ 16))) ∧ Duo ex w w2 B s C (s'.inp c) := h.ref (rinput_any h.rf c ok.q)
theorem Duo.rtake (h : Duo ex w wr B s C s') : Calls Try.prog 17 #[.pointer (some ⟨C, 0, none⟩)] wr fun e w2 => e = .returned (.string (str s'.out)) ∧ Duo ex w w2 B s C { s' with out := [] } := h.ref (rtake_any h.rf)
theorem Duo.rdump (h : Duo ex w wr B s C s') (ok : s'.ok) : Calls Try.prog 15 #[.pointer (some ⟨C, 0, none⟩)] wr fun e w2 => e = .returned (.string (str (s'.regs ++ s'.q))) ∧ Duo ex w w2 B s C s' := (rdump_any h.rf ok).mono fun e w2 hz => ⟨hz.1, h.below hz.2⟩
theorem Duo.rlevel (h : Duo ex w wr B s C s') (ok : s'.ok) : Calls Try.prog 12 #[.pointer (some ⟨C, 0, none⟩)] wr fun e w2 => e = .returned (.bool (decide (s'.asks ≠ 1))) ∧ wr = w2 := rlevel_any h.rf ok.ier
/-- An act of both. -/
theorem both_any (h : Duo [] w wr B s C s) (f : Deed) (hf : f.k < 256) (hn : s.out.length ≤ 1000000) : Calls Try.prog 10 #[.pointer (some ⟨B, 0, none⟩), .pointer (some ⟨C, 0, none⟩), .agg #[.int .u8 f.k, .int .u64 f.off, .int .u64 f.v, .int .i64 f.wd]] wr fun e w2 => e = .returned (.bool true) ∧ Duo [] w w2 B (s.deed f) C (s.deed f) := by
  obtain ⟨what, of, x, wd⟩ := f
  have hok := h.ok
  have HW := Lib.hid (h.with 32 #[.int .u8 what, .int .u64 of, .int .u64 x, .int .i64 wd])
  have HOK := Lib.hid hok
  have HN := Lib.hid hn
  obtain ⟨c, hc0, hx⟩ : ∃ c : UInt8, c = UInt8.ofNat (x % 256) ∧ ((x : Int) % 256) = (c.toNat : Int) := ⟨UInt8.ofNat (x % 256), rfl, by rw [UInt8.toNat_ofNat']; omega⟩
  have hr : (what : Int) % 9 = ((what % 9 : Nat) : Int) := by omega
  have hr9 : what % 9 < 9 := Nat.mod_lt _ (by decide)
  have hd : s.deed ⟨what, of, x, wd⟩ = if what % 9 < 3 then s.Rd of wd else if what % 9 < 6 then s.Wt of wd x else if what % 9 < 8 then s.inp c else { s with out := [] } := by rw [hc0]; rfl
  generalize what % 9 = r at hr hr9 hd
  have HD := Lib.hid hd
  clear hd h hc0 hok hn
  obtain rfl | rfl | rfl | rfl | rfl | rfl | rfl | rfl | rfl : r = 0 ∨ r = 1 ∨ r = 2 ∨ r = 3 ∨ r = 4 ∨ r = 5 ∨ r = 6 ∨ r = 7 ∨ r = 8 := by omega
  all_goals
    go_enter Try.func10, Try.ntmps10
    go_wp2_with (first
      | (go_at_call 21; refine (HW.out.read of wd).mono ?_; rintro e w2 ⟨rfl, hz⟩; have T1 := Lib.hid hz; clear hz; have e1 := T1.out.head.read 1; have e2 := T1.out.head.read 2; have e3 := T1.out.head.read 3)
      | (go_at_call 24; refine (T1.out.rread HOK.out of wd).mono ?_; rintro e w3 ⟨rfl, hz⟩; have T2 := Lib.hid hz; clear hz)
      | (go_at_call 18; refine (HW.out.write of wd x HN.out).mono ?_; rintro e w2 ⟨rfl, hz⟩; have T1 := Lib.hid hz; clear hz; have e1 := T1.out.head.read 1; have e2 := T1.out.head.read 2; have e3 := T1.out.head.read 3)
      | (go_at_call 25; refine (T1.out.rwrite HOK.out of wd x HN.out).mono ?_; rintro e w3 ⟨rfl, hz⟩; have T2 := Lib.hid hz; clear hz)
      | (go_at_call 19; refine (HW.out.input c).mono ?_; rintro e w2 ⟨rfl, hz⟩; have T1 := Lib.hid hz; clear hz; have e1 := T1.out.head.read 1; have e2 := T1.out.head.read 2; have e3 := T1.out.head.read 3)
      | (go_at_call 26; refine (T1.out.rinput HOK.out c).mono ?_; rintro e w3 ⟨rfl, hz⟩; have T2 := Lib.hid hz; clear hz)
      | (go_at_call 16; refine HW.out.take.mono ?_; rintro e w2 ⟨rfl, hz⟩; have T1 := Lib.hid hz; clear hz; have e1 := T1.out.head.read 1; have e2 := T1.out.head.read 2; have e3 := T1.out.head.read 3)
      | (go_at_call 17; refine T1.out.rtake.mono ?_; rintro e w3 ⟨rfl, hz⟩; have T2 := Lib.hid hz; clear hz))
    go_ret
    exact ⟨rfl, by rw [HD.out]; exact T2.out.rest⟩
end
theorem Duo.new (w : World) : Duo [] w ((w.alloc (.cells (uc .zero (.slice none 0 0) (.slice none 0 0)) 49)).alloc (.cells (rc .zero) 28)) w.heap.size .zero (w.heap.size + 1) .zero := by
  have hs : (w.alloc (.cells (uc .zero (.slice none 0 0) (.slice none 0 0)) 49)).heap.size = w.heap.size + 1 := by simp
  have hb : Rf ((w.alloc (.cells (uc .zero (.slice none 0 0) (.slice none 0 0)) 49)).alloc (.cells (rc .zero) 28)) (w.heap.size + 1) .zero := hs ▸ Box.made _ _ _
  exact ⟨fun b => b = w.heap.size, fun b => b = w.heap.size + 1, (new_ua w (K := fun b => b = w.heap.size) rfl).more _, ⟨hb, rfl⟩, (fun b hb => by subst hb; simp; omega), (fun b hb => by subst hb; simp), (fun b hb hk => by omega), (fun x hx => nomatch hx), ((Below.refl _ _).alloc (Nat.le_refl _) _).alloc (by simp) _⟩
end Go.Proofs.Ytagcmajiomhbdaa
