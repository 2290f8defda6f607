/- Two lines side by side. -/
import Derived.Test.YtagcmajiomhbdaaI
import Derived.Test.YtagcmajiomhbdaaPr
set_option linter.unusedVariables false
set_option linter.unusedSimpArgs false
namespace Go.Proofs.Ytagcmajiomhbdaa
open Go.RowKit
def UaP (B : Nat) (s : US) (w : World) (K : Nat → Prop) : Prop := Ua w B s K
theorem UaP.kept (B : Nat) (s : US) : Kept (UaP B s) := fun h ht hd => Ua.touch h ht hd
/-- Two lines behind w, of blocks of their own. -/
def Two (ex : List (Nat × TypeId × Array Value)) (w wr : World) (B : Nat) (s : US) (B' : Nat) (s' : US) : Prop := Pair (UaP B s) (UaP B' s') ex w wr
section
variable {w wr w2 : World} {B B' : Nat} {s s' s2 : US} {ex : List (Nat × TypeId × Array Value)}
theorem Ua.ok {K : Nat → Prop} (h : Ua w B s K) : s.ok := by obtain ⟨o, q, h⟩ := h; exact h.ok
theorem Two.symm (h : Two ex w wr B s B' s') : Two ex w wr B' s' B s := Pair.symm h
theorem Two.below (h : Two ex w wr B s B' s') (hb : Below wr.heap.size wr w2) : Two ex w w2 B s B' s' := Pair.below (UaP.kept _ _) (UaP.kept _ _) h hb
theorem Two.with (h : Two ex w wr B s B' s') (t : TypeId) (cs : Array Value) : Two ((wr.heap.size, t, cs) :: ex) w (wr.alloc (.cells cs t)) B s B' s' := Pair.with (UaP.kept _ _) (UaP.kept _ _) h t cs
theorem Two.bel (h : Two ex w wr B s B' s') : Below w.heap.size w wr := Pair.bel h
theorem Two.head {x : Nat} {t : TypeId} {cs : Array Value} (h : Two ((x, t, cs) :: ex) w wr B s B' s') : Box wr x t cs := Pair.head h
theorem Two.drawn1 (h : Two ex w wr B s B' s') : Two ex w wr.drew B s B' s' := Pair.drawn (UaP.kept _ _) (UaP.kept _ _) h 1
/-- The cells of an act beside them. -/
def Four (x : Nat) (a b c d : Value) (w : World) : Prop := w.cell? ⟨x, 0, none⟩ = some a ∧ w.cell? ⟨x, 1, none⟩ = some b ∧ w.cell? ⟨x, 2, none⟩ = some c ∧ w.cell? ⟨x, 3, none⟩ = some d
theorem Two.four {x : Nat} {t : TypeId} {a b c d : Value} (h : Two ((x, t, #[a, b, c, d]) :: ex) w wr B s B' s') : Four x a b c d wr :=
  have hb := Pair.head h
  ⟨hb.read 0, hb.read 1, hb.read 2, hb.read 3⟩
theorem Two.rest {x : Nat × TypeId × Array Value} (h : Two (x :: ex) w wr B s B' s') : Two ex w wr B s B' s' := Pair.rest h
theorem Two.ok (h : Two ex w wr B s B' s') : s.ok ∧ s'.ok := by obtain ⟨K, K', h⟩ := h; exact ⟨Ua.ok h.p, Ua.ok h.q⟩
theorem Two.wrote {p : Program} {f : Nat} {args : Array Value} {R : Ending → Prop} (h : Two ex w wr B s B' s') (c : ∀ K, Ua wr B s K → Calls p f args wr fun e w2 => R e ∧ Wr K B s2 wr w2) : Calls p f args wr fun e w2 => R e ∧ Two ex w w2 B s2 B' s' :=
  Pair.leftOf (UaP.kept _ _) h fun K hu => (c K hu).mono fun e w2 hz => hz
theorem Two.read (h : Two ex w wr B s B' s') (off : Nat) (v : Int) : Calls Try.prog 21 #[.pointer (some ⟨B, 0, none⟩), .int .u64 off, .int .i64 v] wr fun e w2 => e = .returned (.tuple #[.int .u64 (s.Rv off v), .bool (okR off v)]) ∧ Two ex w w2 B (s.Rd off v) B' s' :=
  h.wrote fun K hu => (Read_any hu off v).mono fun e w2 hz => ⟨hz.1, Wr.ofRead2 hz.2.1 hz.2.2⟩
theorem Two.write (h : Two ex w wr B s B' s') (off : Nat) (v : Int) (x : Nat) (hn : s.out.length ≤ 1000000) : Calls Try.prog 18 #[.pointer (some ⟨B, 0, none⟩), .int .u64 off, .int .i64 v, .int .u64 x] wr fun e w2 => e = .returned (.bool (okR off v)) ∧ Two ex w w2 B (s.Wt off v x) B' s' :=
  h.wrote fun K hu => Write_any hu off v x hn
theorem Two.input (h : Two ex w wr B s B' s') (c : UInt8) : Calls Try.prog 19 #[.pointer (some ⟨B, 0, none⟩), .int .u8 c.toNat] wr fun e w2 => e = .returned (.bool (decide (s.q.length ≠ 16))) ∧ Two ex w w2 B (s.inp c) B' s' :=
  h.wrote fun K hu => input_any hu c
theorem Two.take (h : Two ex w wr B s B' s') : Calls Try.prog 16 #[.pointer (some ⟨B, 0, none⟩)] wr fun e w2 => e = .returned (.string (str s.out)) ∧ Two ex w w2 B { s with out := [] } B' s' :=
  h.wrote fun K hu => Take_any hu
theorem Two.dump (h : Two ex w wr B s B' s') {D : ByteArray} (hD : str (s.regs ++ s.q) = D) : Calls Try.prog 14 #[.pointer (some ⟨B, 0, none⟩)] wr fun e w2 => e = .returned (.string D) ∧ Two ex w w2 B s B' s' := by
  subst hD
  have h' := h
  obtain ⟨K, K', h⟩ := h
  exact (dump_any h.p).mono fun e w2 hz => ⟨hz.1, h'.below hz.2⟩
theorem Two.level (h : Two ex w wr B s B' s') : Calls Try.prog 11 #[.pointer (some ⟨B, 0, none⟩)] wr fun e w2 => e = .returned (.bool (decide (s.asks ≠ 1))) ∧ wr = w2 := by
  obtain ⟨K, K', h⟩ := h
  obtain ⟨o, q, hv⟩ := h.p
  exact level_any hv
theorem Two.does (h : Two ex w wr B s B' s') (f : Deed) (hf : f.k < 256) (hn : s.out.length ≤ 1000000) : Calls Try.prog 23 #[.pointer (some ⟨B, 0, none⟩), .agg #[.int .u8 f.k, .int .u64 f.off, .int .u64 f.v, .int .i64 f.wd]] wr fun e w2 => e = .returned (.tuple #[]) ∧ Two ex w w2 B (s.deed f) B' s' :=
  h.wrote fun K hu => does_any hu f hf hn
end
theorem Two.new (w : World) : Two [] w ((w.alloc (.cells (uc .zero (.slice none 0 0) (.slice none 0 0)) 49)).alloc (.cells (uc .zero (.slice none 0 0) (.slice none 0 0)) 49)) w.heap.size .zero (w.heap.size + 1) .zero := by
  have hs : (w.alloc (.cells (uc .zero (.slice none 0 0) (.slice none 0 0)) 49)).heap.size = w.heap.size + 1 := by simp
  have := new_ua (w.alloc (.cells (uc .zero (.slice none 0 0) (.slice none 0 0)) 49)) (K := fun b => b = w.heap.size + 1) hs
  rw [hs] at this
  refine ⟨fun b => b = w.heap.size, fun b => b = w.heap.size + 1, (new_ua w (K := fun b => b = w.heap.size) rfl).more _, this, (fun b hb => by subst hb; simp; omega), (fun b hb => by subst hb; simp), (fun b hb hk => by omega), (fun x hx => nomatch hx), ((Below.refl _ _).alloc (Nat.le_refl _) _).alloc (by simp) _⟩
theorem str_inj {a b : List UInt8} (h : str a = str b) : a = b := by
  have := congrArg (fun x : ByteArray => x.data.toList) h
  simpa [str] using this
theorem oneN_inj {a b : Bool} (h : UInt8.ofNat (oneN a) = UInt8.ofNat (oneN b)) : a = b := by
  cases a <;> cases b <;> first | rfl | (exact absurd h (by decide))
theorem ofNat_inj {a b : Nat} (ha : a < 256) (hb : b < 256) (h : UInt8.ofNat a = UInt8.ofNat b) : a = b := by
  have := congrArg UInt8.toNat h
  rwa [ofN ha, ofN hb] at this
/-- A Dump tells all but what was sent. -/
theorem dump_inj {s s' : US} (h : s.ok) (h' : s'.ok) (ho : s.out = s'.out) (e : s.regs ++ s.q = s'.regs ++ s'.q) : s = s' := by
  rcases s with ⟨ier, lcr, mcr, scr, d0, d1, q, out, en, ov, dn⟩
  rcases s' with ⟨ier', lcr', mcr', scr', d0', d1', q', out', en', ov', dn'⟩
  simp only [US.regs, List.cons_append, List.nil_append, List.cons.injEq] at e
  obtain ⟨e1, e2, e3, e4, e5, e6, e7, e8, e9, e10⟩ := e
  have h1 := h.ier
  have h1' := h'.ier
  simp only at h1 h1'
  obtain rfl := ofNat_inj (by omega) (by omega) e1
  obtain rfl := oneN_inj e2
  obtain rfl := ofNat_inj h.lcr h'.lcr e3
  obtain rfl := ofNat_inj h.mcr h'.mcr e4
  obtain rfl := ofNat_inj h.scr h'.scr e5
  obtain rfl := ofNat_inj h.d0 h'.d0 e6
  obtain rfl := ofNat_inj h.d1 h'.d1 e7
  obtain rfl := oneN_inj e8
  obtain rfl := oneN_inj e9
  simp only at ho
  subst ho e10
  rfl
end Go.Proofs.Ytagcmajiomhbdaa
