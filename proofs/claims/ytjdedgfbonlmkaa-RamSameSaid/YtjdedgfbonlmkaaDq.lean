/- RamSame: two pairs of memories, act by act. -/
import Derived.Test.YtjdedgfbonlmkaaDp
set_option linter.unusedVariables false
set_option linter.unusedSimpArgs false
namespace Go.Proofs.Ytjdedgfbonlmkaa
open Go.RowKit
/-- No block of the one pair is the other's. -/
structure Apart (B1 g1 C1 B2 g2 C2 : Nat) : Prop where
  bb : B1 ≠ B2
  bg : B1 ≠ g2
  bc : B1 ≠ C2
  gb : g1 ≠ B2
  gg : g1 ≠ g2
  gc : g1 ≠ C2
  cb : C1 ≠ B2
  cg : C1 ≠ g2
  cc : C1 ≠ C2
structure Over (n B1 g1 C1 B2 g2 C2 : Nat) : Prop where
  b1 : n ≤ B1
  g1 : n ≤ g1
  c1 : n ≤ C1
  b2 : n ≤ B2
  g2 : n ≤ g2
  c2 : n ≤ C2
section
variable {w wr w' w0 w1 w2 w3 w4 : World} {B1 g1 C1 N1 B2 g2 C2 N2 W A D W2 A2 D2 base base2 : Nat} {l l2 : List UInt8} {L : List Ent} {v : Value}
theorem Rm.fr (h : Rm wr B1 g1 N1 A W l) (k : Fr B2 g2 C2 base2 wr w') (h1 : B1 ≠ B2) (h2 : B1 ≠ g2) (h3 : B1 ≠ C2) (h4 : g1 ≠ B2) (h5 : g1 ≠ g2) (h6 : g1 ≠ C2) : Rm w' B1 g1 N1 A W l :=
  ⟨h.box.fr k h1 h2 h3 (by decide), h.mem.fr k h4 h5 h6 (by decide), h.len, h.big, h.top, h.at1⟩
theorem Dm.fr (h : Dm wr C1 N1 D W l base L v) (k : Fr B2 g2 C2 base2 wr w') (h1 : C1 ≠ B2) (h2 : C1 ≠ g2) (h3 : C1 ≠ C2) (hr : Rm wr B2 g2 N2 A2 W2 l2) {cs : Array Value} (hc : Box wr C2 33 cs) (hv : ∀ k, v.ownBlock = some k → k < base2) : Dm w' C1 N1 D W l base L v :=
  ⟨h.box.fr k h1 h2 h3 (by decide), ⟨h.own.1, h.own.2.imp id (fun ⟨gr, cap, cur, e, hg, hh, r⟩ => ⟨gr, cap, cur, e, hg, (k.block gr (Array.getElem?_eq_some_iff.1 hh).1 (row_ne hh hr.box (by decide)) (row_ne hh hr.mem (by decide)) (row_ne hh hc (by decide)) (.inl (hv gr (by rw [e]; rfl)))).trans hh, r⟩)⟩, h.md, h.len, h.top, h.at1, Nat.le_trans h.hb k.size⟩
/-- In the first loop: the second pair is new. -/
def Ta (w wr : World) (B1 C1 N1 B2 C2 N2 : Nat) : Prop := ∃ g1 W A D l g2, Pm wr B1 g1 C1 N1 W A D l w.heap.size ∧ Rm wr B2 g2 N2 0 0 (List.replicate N2 0) ∧ Box wr C2 33 #[.int .u64 N2, .slice none 0 0, .int .u64 (0 : Nat), .int .i64 (0 : Nat)] ∧ C2 ≠ B2 ∧ C2 ≠ g2 ∧ N2 ≤ 65536 ∧ Apart B1 g1 C1 B2 g2 C2 ∧ Over w.heap.size B1 g1 C1 B2 g2 C2 ∧ Below w.heap.size w wr
theorem Ta.below (h : Ta w wr B1 C1 N1 B2 C2 N2) : Below w.heap.size w wr := by obtain ⟨g1, W, A, D, l, g2, hp, hr, hc, n1, n2, h6, ha, ho, hb⟩ := h; exact hb
theorem Ta.one (h : Ta w wr B1 C1 N1 B2 C2 N2) (q a x : Nat) (z : Int) (s : ByteArray) (hq : q < 256) (hqa : a < 18446744073709551616) (hx : x < 18446744073709551616) (hs : s.size ≤ 100) : Calls Try.prog 16 #[.pointer (some ⟨B1, 0, none⟩), .pointer (some ⟨C1, 0, none⟩), .agg #[.int .u8 q, .int .u64 a, .int .u64 x, .int .i64 z, .string s]] wr fun e w' => e = .returned (.bool true) ∧ Ta w w' B1 C1 N1 B2 C2 N2 := by
  obtain ⟨g1, W, A, D, l, g2, hp, hr, hc, n1, n2, h6, ha, ho, hb⟩ := h
  refine (one_any hp q a x z s hq hqa hx hs).mono ?_
  rintro e w' ⟨rfl, W', A', D', l', hp', hf⟩
  exact ⟨rfl, g1, W', A', D', l', g2, hp', hr.fr hf ha.bb.symm ha.gb.symm ha.cb.symm ha.bg.symm ha.gg.symm ha.cg.symm, hc.fr hf ha.bc.symm ha.gc.symm ha.cc.symm (by decide), n1, n2, h6, ha, ho, hb.trans (hf.below ho.b1 ho.g1 ho.c1 (Nat.le_refl _) hb.size)⟩
/-- In the second loop. -/
def Tb (w wr : World) (base2 B1 C1 N1 B2 C2 N2 : Nat) : Prop := ∃ g1 W A D l L v g2 W2 A2 D2 l2, Rm wr B1 g1 N1 A W l ∧ Dm wr C1 N1 D W l w.heap.size L v ∧ (0 < W → A = D) ∧ (W = 0 → A = 0) ∧ (∀ k, v.ownBlock = some k → k < base2) ∧ Pm wr B2 g2 C2 N2 W2 A2 D2 l2 base2 ∧ Apart B1 g1 C1 B2 g2 C2 ∧ Over w.heap.size B1 g1 C1 B2 g2 C2 ∧ w.heap.size ≤ base2 ∧ Below w.heap.size w wr
theorem Tb.below (h : Tb w wr base2 B1 C1 N1 B2 C2 N2) : Below w.heap.size w wr := by obtain ⟨g1, W, A, D, l, L, v, g2, W2, A2, D2, l2, hr, hd, e1, e2, hv, hp, ha, ho, hb2, hb⟩ := h; exact hb
theorem Ta.next (h : Ta w wr B1 C1 N1 B2 C2 N2) : Tb w wr wr.heap.size B1 C1 N1 B2 C2 N2 := by
  obtain ⟨g1, W, A, D, l, g2, hp, hr, hc, n1, n2, h6, ha, ho, hb⟩ := h
  obtain ⟨L, v, hd⟩ := hp.dm
  exact ⟨g1, W, A, D, l, L, v, g2, 0, 0, 0, _, hp.rm, hd, hp.e1, hp.e2, fun k hk => (hd.own.lt k hk).2, ⟨hr, ⟨[], .slice none 0 0, ⟨hc, World.ownsRow_nil _ _ _ _, Md.nil _, by simp, h6, by omega, Nat.le_refl _⟩⟩, fun h => absurd h (by decide), fun _ => rfl, n1, n2⟩, ha, ho, hb.size, hb⟩
theorem Tb.one (h : Tb w wr base2 B1 C1 N1 B2 C2 N2) (q a x : Nat) (z : Int) (s : ByteArray) (hq : q < 256) (hqa : a < 18446744073709551616) (hx : x < 18446744073709551616) (hs : s.size ≤ 100) : Calls Try.prog 16 #[.pointer (some ⟨B2, 0, none⟩), .pointer (some ⟨C2, 0, none⟩), .agg #[.int .u8 q, .int .u64 a, .int .u64 x, .int .i64 z, .string s]] wr fun e w' => e = .returned (.bool true) ∧ Tb w w' base2 B1 C1 N1 B2 C2 N2 := by
  obtain ⟨g1, W, A, D, l, L, v, g2, W2, A2, D2, l2, hr, hd, e1, e2, hv, hp, ha, ho, hb2, hb⟩ := h
  obtain ⟨L2, v2, hd2⟩ := hp.dm
  refine (one_any hp q a x z s hq hqa hx hs).mono ?_
  rintro e w' ⟨rfl, W', A', D', l', hp', hf⟩
  exact ⟨rfl, g1, W, A, D, l, L, v, g2, W', A', D', l', hr.fr hf ha.bb ha.bg ha.bc ha.gb ha.gg ha.gc, hd.fr hf ha.cb ha.cg ha.cc hp.rm hd2.box hv, e1, e2, hv, hp', ha, ho, hb2, hb.trans (hf.below ho.b2 ho.g2 ho.c2 hb2 hb.size)⟩
theorem Ta.start (P Q : Nat) (hP : P ≤ 16) (hQ : Q ≤ 16) (hb0 : Below w.heap.size w w0)
    (h1 : Rm w1 (w0.heap.size + 1) w0.heap.size (P * 4096) 0 0 (List.replicate (P * 4096) 0)) (b1 : Below w0.heap.size w0 w1) (s1 : w1.heap.size = w0.heap.size + 2)
    (h2 : Rm w2 (w1.heap.size + 1) w1.heap.size (Q * 4096) 0 0 (List.replicate (Q * 4096) 0)) (b2 : Below w1.heap.size w1 w2) (s2 : w2.heap.size = w1.heap.size + 2)
    (h3 : Dm w3 w2.heap.size (P * 4096) 0 0 (List.replicate (P * 4096) 0) w.heap.size [] (.slice none 0 0)) (b3 : Below w2.heap.size w2 w3) (s3 : w2.heap.size < w3.heap.size)
    (h4 : Dm w4 w3.heap.size (Q * 4096) 0 0 (List.replicate (Q * 4096) 0) w.heap.size [] (.slice none 0 0)) (b4 : Below w3.heap.size w3 w4) : Ta w w4 (w0.heap.size + 1) w2.heap.size (P * 4096) (w1.heap.size + 1) w3.heap.size (Q * 4096) := by
  have hs0 := hb0.size
  have b24 : Below w2.heap.size w2 w4 := b3.trans (b4.mono (by omega))
  have b14 : Below w1.heap.size w1 w4 := b2.trans (b24.mono (by omega))
  have b04 : Below w0.heap.size w0 w4 := b1.trans (b14.mono (by omega))
  exact ⟨w0.heap.size, 0, 0, 0, _, w1.heap.size, ⟨h1.over b14, ⟨_, _, h3.over b4⟩, fun h => absurd h (by decide), fun _ => rfl, by omega, by omega⟩, h2.over b24, h4.box, by omega, by omega, by omega, ⟨by omega, by omega, by omega, by omega, by omega, by omega, by omega, by omega, by omega⟩, ⟨by omega, by omega, by omega, by omega, by omega, by omega⟩, hb0.trans (b04.mono hs0)⟩
theorem sameB_self (l : List UInt8) (A W : Nat) : sameB l A W l A W = true := by unfold sameB; simp
theorem sameB_symm (l1 : List UInt8) (A1 W1 : Nat) (l2 : List UInt8) (A2 W2 : Nat) : sameB l2 A2 W2 l1 A1 W1 = sameB l1 A1 W1 l2 A2 W2 := by
  unfold sameB
  apply decide_eq_decide.2
  constructor <;> (rintro ⟨h1, h2, h3⟩; exact ⟨h1.symm, h2.symm, h3.symm⟩)
theorem sameB_doc {l1 l2 : List UInt8} {A1 W1 D1 A2 W2 D2 : Nat} (e1 : 0 < W1 → A1 = D1) (e2 : W1 = 0 → A1 = 0) (f1 : 0 < W2 → A2 = D2) (f2 : W2 = 0 → A2 = 0) : sameB l1 A1 W1 l2 A2 W2 = (decide (l1 = l2) && (decide (W1 = W2) && (decide (W1 = 0) || decide (D1 = D2)))) := by
  unfold sameB
  by_cases h1 : l1 = l2
  · by_cases h2 : W1 = W2
    · subst h2
      rcases Nat.eq_zero_or_pos W1 with h3 | h3
      · have := e2 h3
        have := f2 h3
        simp [h1, h3]
        omega
      · have g1 := e1 h3
        have g2 := f1 h3
        have h4 : ¬ W1 = 0 := by omega
        simp [h1, h4, g1, g2]
    · simp [h2]
  · simp [h1]
/-- The last calls of the law, one behind the other. -/
theorem Tb.final (h : Tb w wr base2 B1 C1 N1 B2 C2 N2) : ∃ b : Bool, Calls Try.prog 20 #[.pointer (some ⟨B1, 0, none⟩), .pointer (some ⟨B2, 0, none⟩)] wr fun e w1 => e = .returned (.bool b) ∧
    Hid (Calls Try.prog 21 #[.pointer (some ⟨C1, 0, none⟩), .pointer (some ⟨C2, 0, none⟩)] w1 fun e w2 => e = .returned (.bool b) ∧
    Hid (Calls Try.prog 13 #[.pointer (some ⟨B1, 0, none⟩)] w2 fun e w3 => ∃ B3, e = .returned (.pointer (some ⟨B3, 0, none⟩)) ∧
    Hid (Calls Try.prog 20 #[.pointer (some ⟨B1, 0, none⟩), .pointer (some ⟨B3, 0, none⟩)] w3 fun e w4 => e = .returned (.bool true) ∧
    Hid (Calls Try.prog 20 #[.pointer (some ⟨B2, 0, none⟩), .pointer (some ⟨B1, 0, none⟩)] w4 fun e w5 => e = .returned (.bool b) ∧
    Hid (Calls Try.prog 20 #[.pointer (some ⟨B1, 0, none⟩), .pointer (some ⟨B2, 0, none⟩)] w5 fun e w6 => e = .returned (.bool b) ∧ Below w.heap.size w w6))))) := by
  obtain ⟨g1, W, A, D, l, L, v, g2, W2, A2, D2, l2, hr, hd, e1, e2, hv, hp, ha, ho, hb2, hb⟩ := h
  obtain ⟨L2, v2, hd2⟩ := hp.dm
  have hs := hb.size
  refine ⟨sameB l A W l2 A2 W2, (msame_any hr hp.rm).mono ?_⟩
  rintro e w1 ⟨rfl, n1, hw1⟩
  have k1 : Below wr.heap.size wr w1 := by rw [hw1]; exact below_drewN (Below.refl _ _) n1
  refine ⟨rfl, Lib.hid ((dsame_any (hd.over k1) (hd2.over k1) ha.cc _ (sameB_doc e1 e2 hp.e1 hp.e2)).mono ?_)⟩
  rintro e w2 ⟨rfl, n2, hw2⟩
  have k2 : Below wr.heap.size wr w2 := by rw [hw2]; exact below_drewN k1 n2
  refine ⟨rfl, Lib.hid ((mcopy_any (hr.over k2)).mono ?_)⟩
  rintro e w3 ⟨rfl, hr3, hb3, hs3⟩
  have k3 : Below wr.heap.size wr w3 := k2.trans (hb3.mono k2.size)
  refine ⟨_, rfl, Lib.hid ((msame_any (hr.over k3) hr3).mono ?_)⟩
  rintro e w4 ⟨rfl, n4, hw4⟩
  have k4 : Below wr.heap.size wr w4 := by rw [hw4]; exact below_drewN k3 n4
  refine ⟨by rw [sameB_self], Lib.hid ((msame_any (hp.rm.over k4) (hr.over k4)).mono ?_)⟩
  rintro e w5 ⟨rfl, n5, hw5⟩
  have k5 : Below wr.heap.size wr w5 := by rw [hw5]; exact below_drewN k4 n5
  refine ⟨by rw [sameB_symm], Lib.hid ((msame_any (hr.over k5) (hp.rm.over k5)).mono ?_)⟩
  rintro e w6 ⟨rfl, n6, hw6⟩
  have k6 : Below wr.heap.size wr w6 := by rw [hw6]; exact below_drewN k5 n6
  exact ⟨rfl, hb.trans (k6.mono hs)⟩
end
/-- A deed's cells, whatever has been made since. -/
theorem deed_at {w : World} {a : Option Addr} {len : Nat} {l : List Deed} (hf : IsDeeds w a len l) {k : Nat} {e : Deed} (hk : l[k]? = some e) : (e.k < 256 ∧ e.a < 18446744073709551616 ∧ e.v < 18446744073709551616) ∧ ∃ b off, a = some ⟨b, off, none⟩ ∧ ∀ wx, Below w.heap.size w wx → (wx.cell? ⟨b, off + k * 5, none⟩ = some (.int .u8 e.k) ∧ wx.cell? ⟨b, off + k * 5 + 1, none⟩ = some (.int .u64 e.a) ∧ wx.cell? ⟨b, off + k * 5 + 2, none⟩ = some (.int .u64 e.v) ∧ wx.cell? ⟨b, off + k * 5 + 3, none⟩ = some (.int .i64 e.wd) ∧ wx.cell? ⟨b, off + k * 5 + 4, none⟩ = some (.string e.s)) := by
  obtain ⟨b, off, rfl, hbb, c0, c1, c2, c3, c4, h1, h2, h3, _⟩ := hf.2 k e hk
  refine ⟨⟨h1, h2, h3⟩, b, off, rfl, fun wx hbx => ?_⟩
  rw [Nat.mul_comm k 5]
  exact ⟨(hbx.cell (by exact hbb)).trans c0, (hbx.cell (by exact hbb)).trans c1, (hbx.cell (by exact hbb)).trans c2, (hbx.cell (by exact hbb)).trans c3, (hbx.cell (by exact hbb)).trans c4⟩
end Go.Proofs.Ytjdedgfbonlmkaa
