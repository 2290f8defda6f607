/- QueueBack's body: a queue that is made. -/
import Derived.Test.YtnignbpgcopehaaV
import Derived.Test.YtnignbpgcopehaaHp
set_option linter.unusedVariables false
set_option linter.unusedSimpArgs false
namespace Go.Proofs.Ytnignbpgcopehaa
open Go.RowKit
theorem deeds_later2 {w wx : World} {a : Option Addr} {len : Nat} {l : List Deed} (h : IsDeeds w a len l) (bel : Below w.heap.size w wx) : IsDeeds wx a len l := ⟨h.1, fun k f hk => by
  obtain ⟨b, off, rfl, hbb, c0, c1, hn⟩ := h.2 k f hk
  exact ⟨b, off, rfl, Nat.lt_of_lt_of_le hbb bel.size, (bel.cell (by exact hbb)).trans c0, (bel.cell (by exact hbb)).trans c1, hn⟩⟩
theorem deeds_only {w wx : World} {a : Option Addr} {len : Nat} {l : List Deed} (h : IsDeeds w a len l) {n B : Nat} (wy : World) (bel : Below w.heap.size w wy) (ho : Only B wy wx) (hB : w.heap.size ≤ B) : IsDeeds wx a len l :=
  deeds_later2 h (bel.trans (ho.below hB bel.size))
/-- What the law holds: the boxes of its two arrays, a queue. -/
structure Bk (w wr : World) (X : Nat) (d m : Nat) (s0 s1 : Value) (B : Nat) (Ms : List Sm) : Prop where
  c : Box wr X 46 #[.int .u8 d, .int .u8 m]
  l : Box wr (X + 1) 47 #[s0, s1]
  q : Ql wr B d m Ms
  fit : Fit m Ms
  bel : Below w.heap.size w wr
  hX : w.heap.size ≤ X
  hB : X + 2 ≤ B
section
variable {w wr w' : World} {X d m B : Nat} {s0 s1 : Value} {Ms : List Sm}
theorem Bk.over (h : Bk w wr X d m s0 s1 B Ms) (k : Below wr.heap.size wr w') : Bk w w' X d m s0 s1 B Ms :=
  ⟨h.c.over k h.c.inHeap, h.l.over k h.l.inHeap, h.q.over k, h.fit, h.bel.trans (k.mono h.bel.size), h.hX, h.hB⟩
theorem Bk.drew (h : Bk w wr X d m s0 s1 B Ms) : Bk w wr.drew X d m s0 s1 B Ms := ⟨h.c.drawn1, h.l.drawn1, h.q.drawn 1, h.fit, h.bel.drew, h.hX, h.hB⟩
theorem Bk.into (h : Bk w wr X d m s0 s1 B Ms) {Ns : List Sm} (k : Fq wr w' B d m Ns) : Bk w w' X d m s0 s1 B Ns := by
  have := h.hB
  have := h.hX
  exact ⟨h.c.only k.only (by omega), h.l.only k.only (by omega), k.q, k.fit, h.bel.trans (k.only.below (by omega) h.bel.size), h.hX, h.hB⟩
end
theorem load_back {wx : World} {d m : Nat} {Ns : List Sm} (g1 : 1 ≤ d) (g2 : d ≤ 16) (g3 : 1 ≤ m) (g4 : m ≤ 64) (hl : Ns.length ≤ d) (fit : Fit m Ns) : Calls Try.prog 18 #[.int .u8 d, .int .u8 m, .string (dumpM Ns.length Ns)] wx fun e w' => ∃ R, e = .returned (.tuple #[.pointer (some ⟨R, 0, none⟩), .int .i64 0]) ∧ Below wx.heap.size wx w' ∧ wx.heap.size ≤ R ∧ Ql w' R d m Ns := by
  have h1 := load_dump fit hl g2
  have h2 : loadE (dumpM Ns.length Ns) d m = 0 := by rw [loadE_some h1, if_neg (by simp), if_neg (Nat.lt_irrefl _)]
  have h3 := dumpM_size Ns.length Ns
  refine (load_any d m g1 g2 g3 g4 _ (by omega) wx).mono ?_
  rintro e w' ⟨P, rfl, hb, hq⟩
  obtain ⟨B, p, Ms, rfl, hB, h4, _, h5⟩ := hq h2
  rw [h1] at h4
  simp only [Option.some.injEq, Prod.mk.injEq] at h4
  obtain ⟨_, _, rfl⟩ := h4
  exact ⟨B, by rw [h2], hb, hB, h5⟩
/-- The two queues. -/
structure Tw (w wr : World) (X : Nat) (d m : Nat) (s0 s1 : Value) (B R : Nat) (Mb Mr : List Sm) : Prop where
  b : Bk w wr X d m s0 s1 B Mb
  r : Ql wr R d m Mr
  rfit : Fit m Mr
  hR : X + 2 ≤ R
  ne : B ≠ R
section
variable {w wr w' : World} {X d m B R : Nat} {s0 s1 : Value} {Mb Mr : List Sm}
theorem Tw.over (h : Tw w wr X d m s0 s1 B R Mb Mr) (k : Below wr.heap.size wr w') : Tw w w' X d m s0 s1 B R Mb Mr := ⟨h.b.over k, h.r.over k, h.rfit, h.hR, h.ne⟩
theorem Tw.more (h : Tw w wr X d m s0 s1 B R Mb Mr) (o : Obj) : Tw w (wr.alloc o) X d m s0 s1 B R Mb Mr := h.over ((Below.refl _ _).alloc (Nat.le_refl _) o)
theorem Tw.sendB (h : Tw w wr X d m s0 s1 B R Mb Mr) (s : ByteArray) : Calls Try.prog 15 #[.pointer (some ⟨B, 0, none⟩), .string s] wr fun e w' => e = .returned (.int .u8 (sendN d m Mb s)) ∧ Tw w w' X d m s0 s1 B R (sendM d m Mb s) Mr ∧ Only B wr w' := by
  refine (Fq.send ⟨h.b.q, h.b.fit, Only.refl _ _⟩ s).mono ?_
  rintro e w' ⟨rfl, hz⟩
  exact ⟨rfl, ⟨h.b.into hz, h.r.only hz.only (fun e => h.ne e.symm), h.rfit, h.hR, h.ne⟩, hz.only⟩
theorem Tw.recvB (h : Tw w wr X d m s0 s1 B R Mb Mr) : Calls Try.prog 11 #[.pointer (some ⟨B, 0, none⟩)] wr fun e w' => e = .returned (.tuple #[.string (recvS Mb), .int .u8 (recvN Mb)]) ∧ Tw w w' X d m s0 s1 B R Mb.tail Mr := by
  refine (Fq.recv ⟨h.b.q, h.b.fit, Only.refl _ _⟩).mono ?_
  rintro e w' ⟨rfl, hz⟩
  exact ⟨rfl, h.b.into hz, h.r.only hz.only (fun e => h.ne e.symm), h.rfit, h.hR, h.ne⟩
theorem Tw.intoR (h : Tw w wr X d m s0 s1 B R Mb Mr) {Ns : List Sm} (k : Fq wr w' R d m Ns) : Tw w w' X d m s0 s1 B R Mb Ns := by
  have h1 := h.b.hB
  have h2 := h.b.hX
  have h3 := h.hR
  exact ⟨⟨h.b.c.only k.only (by omega), h.b.l.only k.only (by omega), h.b.q.only k.only h.ne, h.b.fit, h.b.bel.trans (k.only.below (by omega) h.b.bel.size), h.b.hX, h.b.hB⟩, k.q, k.fit, h.hR, h.ne⟩
theorem Tw.sendR (h : Tw w wr X d m s0 s1 B R Mb Mr) (s : ByteArray) : Calls Try.prog 15 #[.pointer (some ⟨R, 0, none⟩), .string s] wr fun e w' => e = .returned (.int .u8 (sendN d m Mr s)) ∧ Tw w w' X d m s0 s1 B R Mb (sendM d m Mr s) := by
  refine (Fq.send ⟨h.r, h.rfit, Only.refl _ _⟩ s).mono ?_
  rintro e w' ⟨rfl, hz⟩
  exact ⟨rfl, h.intoR hz⟩
theorem Tw.recvR (h : Tw w wr X d m s0 s1 B R Mb Mr) : Calls Try.prog 24 #[.pointer (some ⟨R, 0, none⟩), .string (recvS Mr), .int .u8 (recvN Mr)] wr fun e w' => e = .returned (.bool true) ∧ Tw w w' X d m s0 s1 B R Mb Mr.tail := by
  refine (receives_any ⟨h.r, h.rfit, Only.refl _ _⟩).mono ?_
  rintro e w' ⟨rfl, hz⟩
  exact ⟨rfl, h.intoR hz⟩
end
theorem load_some {wx : World} {d m : Nat} (g1 : 1 ≤ d) (g2 : d ≤ 16) (g3 : 1 ≤ m) (g4 : m ≤ 64) (s : ByteArray) (hs : s.size ≤ 2000) (hE : loadE s d m = 0) : Calls Try.prog 18 #[.int .u8 d, .int .u8 m, .string s] wx fun e w' => ∃ R Ns, e = .returned (.tuple #[.pointer (some ⟨R, 0, none⟩), .int .i64 0]) ∧ Below wx.heap.size wx w' ∧ Ql w' R d m Ns ∧ dumpM Ns.length Ns = s := by
  refine (load_any d m g1 g2 g3 g4 _ (by omega) wx).mono ?_
  rintro e w' ⟨P, rfl, hb, hq⟩
  obtain ⟨B, p, Ms, rfl, hB, h4, h6, h5⟩ := hq hE
  exact ⟨B, Ms, by rw [hE], hb, h5, dump_load g4 h4 h6⟩
theorem load_none {wx : World} {d m : Nat} (g1 : 1 ≤ d) (g2 : d ≤ 16) (g3 : 1 ≤ m) (g4 : m ≤ 64) (s : ByteArray) (hs : s.size ≤ 2000) : Calls Try.prog 18 #[.int .u8 d, .int .u8 m, .string s] wx fun e w' => ∃ P, e = .returned (.tuple #[P, .int .i64 (loadE s d m)]) ∧ Below wx.heap.size wx w' := by
  refine (load_any d m g1 g2 g3 g4 _ (by omega) wx).mono ?_
  rintro e w' ⟨P, rfl, hb, hq⟩
  exact ⟨P, rfl, hb⟩
set_option maxHeartbeats 1000000 in
set_option maxRecDepth 200000 in
theorem back_ok (d m : Nat) (a0 : Option Addr) (len0 cap0 : Nat) (a1 : Option Addr) (len1 cap1 : Nat) (l0 l1 : List Deed) (s : ByteArray) (g1 : 1 ≤ d) (g2 : d ≤ 16) (g3 : 1 ≤ m) (g4 : m ≤ 64) (w : World) (h0 : IsDeeds w a0 len0 l0) (h1 : IsDeeds w a1 len1 l1) :
    Calls Try.prog 6 #[.agg #[.int .u8 d, .int .u8 m], .agg #[.slice a0 len0 cap0, .slice a1 len1 cap1], .string s] w (Yes w) := by
  obtain ⟨i0, hi, iz0, iz1, iz2⟩ := info_parts info9
  have hc0 := fun wx (h : Below w.heap.size w wx) => few_any a0 len0 cap0 l0 wx (deeds_later2 h0 h)
  have hc1 := fun wx (h : Below w.heap.size w wx) => few_any a1 len1 cap1 l1 wx (deeds_later2 h1 h)
  have D0 := Lib.hid (fun wx (h : Below w.heap.size w wx) => deeds_later2 h0 h)
  have D1 := Lib.hid (fun wx (h : Below w.heap.size w wx) => deeds_later2 h1 h)
  generalize hb0 : fewB len0 l0 = b0 at hc0
  generalize hb1 : fewB len1 l1 = b1 at hc1
  have HF0 := Lib.hid hc0
  have HF1 := Lib.hid hc1
  have HB0 := Lib.hid hb0
  have HB1 := Lib.hid hb1
  clear hc0 hc1 hb0 hb1 h0 h1
  have hsz := Nat.lt_or_ge 2000 s.size
  have HN : Hid (Calls Try.prog 7 #[.int .u8 d, .int .u8 m] ((w.alloc (.cells #[.int .u8 d, .int .u8 m] 46)).alloc (.cells #[.slice a0 len0 cap0, .slice a1 len1 cap1] 47)) fun e w1 => e = .returned (.tuple #[.pointer (some ⟨w.heap.size + 2, 0, none⟩), .int .i64 0]) ∧ Bk w w1 w.heap.size d m (.slice a0 len0 cap0) (.slice a1 len1 cap1) (w.heap.size + 2) []) := Lib.hid (by
    have e : ((w.alloc (.cells #[.int .u8 d, .int .u8 m] 46)).alloc (.cells #[.slice a0 len0 cap0, .slice a1 len1 cap1] 47)).heap.size = w.heap.size + 2 := by simp
    have x0 : Box ((w.alloc (.cells #[.int .u8 d, .int .u8 m] 46)).alloc (.cells #[.slice a0 len0 cap0, .slice a1 len1 cap1] 47)) w.heap.size 46 #[.int .u8 d, .int .u8 m] := (Box.made _ _ _).more _
    have x1 : Box ((w.alloc (.cells #[.int .u8 d, .int .u8 m] 46)).alloc (.cells #[.slice a0 len0 cap0, .slice a1 len1 cap1] 47)) (w.heap.size + 1) 47 #[.slice a0 len0 cap0, .slice a1 len1 cap1] := by
      have := Box.made (w.alloc (.cells #[.int .u8 d, .int .u8 m] 46)) 47 #[.slice a0 len0 cap0, .slice a1 len1 cap1]
      rw [World.size_alloc] at this
      exact this
    have bl : Below w.heap.size w ((w.alloc (.cells #[.int .u8 d, .int .u8 m] 46)).alloc (.cells #[.slice a0 len0 cap0, .slice a1 len1 cap1] 47)) := ((Below.refl _ _).alloc (Nat.le_refl _) _).alloc (by rw [World.size_alloc]; omega) _
    refine (new_ok d m g1 g2 g3 g4 _).mono ?_
    rintro e' w1 ⟨rfl, hq, hb, _⟩
    refine ⟨by rw [e], x0.over hb x0.inHeap, x1.over hb x1.inHeap, ⟨fun _ => ⟨⟨#[]⟩, Nat.zero_le _⟩, 0, by rw [← e]; exact hq, rfl⟩, fit_nil m, bl.trans (hb.mono (by rw [e]; omega)), Nat.le_refl _, Nat.le_refl _⟩)
  rcases hsz with hsz | hsz
  · cases b0 <;> cases b1
    all_goals
      go_enter Try.func6, Try.ntmps6
      go_wp2_with (first
        | (go_at_call 7; refine HN.out.mono ?_; rintro e w1 ⟨rfl, hk⟩; have HK := Lib.hid hk; clear hk HN; have c0 := HK.out.c.read 0; have c1 := HK.out.c.read 1; have e0 := HK.out.l.read 0; have e1 := HK.out.l.read 1; have fz := HK.out.l.warm 0)
        | (go_at_call 9; first | (refine (HF0.out _ HK.out.bel).mono ?_; clear HF0; rintro e w' ⟨rfl, rfl⟩) | (refine (HF1.out _ HK.out.bel).mono ?_; clear HF1; rintro e w' ⟨rfl, rfl⟩))
        | (go_at_call 10; refine (awake_any _).mono ?_; rintro e w' ⟨rfl, bel⟩))
      go_ret
      exact ⟨rfl, HK.out.bel.trans (bel.mono HK.out.bel.size)⟩
  · cases b0
    · cases b1
      all_goals
        go_enter Try.func6, Try.ntmps6
        go_wp2_with (first
          | (go_at_call 7; refine HN.out.mono ?_; rintro e w1 ⟨rfl, hk⟩; have HK := Lib.hid hk; clear hk HN; have c0 := HK.out.c.read 0; have c1 := HK.out.c.read 1; have e0 := HK.out.l.read 0; have e1 := HK.out.l.read 1; have fz := HK.out.l.warm 0)
          | (go_at_call 9; first | (refine (HF0.out _ HK.out.bel).mono ?_; clear HF0; rintro e w' ⟨rfl, rfl⟩) | (refine (HF1.out _ HK.out.bel).mono ?_; clear HF1; rintro e w' ⟨rfl, rfl⟩))
          | (go_at_call 10; refine (awake_any _).mono ?_; rintro e w' ⟨rfl, bel⟩))
        go_ret
        exact ⟨rfl, HK.out.bel.trans (bel.mono HK.out.bel.size)⟩
    · cases b1
      · go_enter Try.func6, Try.ntmps6
        go_wp2_with (first
          | (go_at_call 7; refine HN.out.mono ?_; rintro e w1 ⟨rfl, hk⟩; have HK := Lib.hid hk; clear hk HN; have c0 := HK.out.c.read 0; have c1 := HK.out.c.read 1; have e0 := HK.out.l.read 0; have e1 := HK.out.l.read 1; have fz := HK.out.l.warm 0)
          | (go_at_call 9; first | (refine (HF0.out _ HK.out.bel).mono ?_; clear HF0; rintro e w' ⟨rfl, rfl⟩) | (refine (HF1.out _ HK.out.bel).mono ?_; clear HF1; rintro e w' ⟨rfl, rfl⟩))
          | (go_at_call 10; refine (awake_any _).mono ?_; rintro e w' ⟨rfl, bel⟩))
        go_ret
        exact ⟨rfl, HK.out.bel.trans (bel.mono HK.out.bel.size)⟩
      · go_enter Try.func6, Try.ntmps6
        go_wp2_with (first
          | (go_at_call 22; refine (does_any a0 len0 cap0 l0 _ (fewB_of HB0.out).1 HK.out.q HK.out.fit (fun wx ho => D0.out wx (HK.out.bel.trans (ho.below (Nat.le_add_right _ _) HK.out.bel.size)))).mono ?_; rintro e w2 ⟨rfl, Ns, hn⟩; have HK2 := Lib.hid (HK.out.into hn); clear hn HK c0 c1 e0 e1 fz; have c0 := HK2.out.c.read 0; have c1 := HK2.out.c.read 1)
          | (go_at_call 7; refine HN.out.mono ?_; rintro e w1 ⟨rfl, hk⟩; have HK := Lib.hid hk; clear hk HN; have c0 := HK.out.c.read 0; have c1 := HK.out.c.read 1; have e0 := HK.out.l.read 0; have e1 := HK.out.l.read 1; have fz := HK.out.l.warm 0)
          | (go_at_call 9; first | (refine (HF0.out _ HK.out.bel).mono ?_; clear HF0; rintro e w' ⟨rfl, rfl⟩) | (refine (HF1.out _ HK.out.bel).mono ?_; clear HF1; rintro e w' ⟨rfl, rfl⟩))
          | (go_at_call 10; refine (awake_any _).mono ?_; rintro e w' ⟨rfl, bel⟩))
        have hL := HK2.out.q.len.1
        refine wp_region_calm (fun w' => w'.cell? ⟨w.heap.size, 0, none⟩ = some (.int .u8 d) ∧ w'.cell? ⟨w.heap.size, 1, none⟩ = some (.int .u8 m))
          (.e 0 :: .e 0 :: .e 0 :: .e 0 :: .e 0 :: .l 0 :: .l 0 :: .e 0 :: .e 0 :: .e 0 :: .e 0 :: .e 0 :: []) (by kernel_rfl) (by kernel_rfl) (by kernel_rfl) (by kernel_rfl) ?_
        have HK3 := Lib.hid HK2.out.drew
        have hHeld : (w2.drew.cell? ⟨w.heap.size, 0, none⟩ = some (.int .u8 d) ∧ w2.drew.cell? ⟨w.heap.size, 1, none⟩ = some (.int .u8 m)) := ⟨HK3.out.c.read 0, HK3.out.c.read 1⟩
        repeat (first
          | (refine mv_take0 (v := ?_) (by rfl) hHeld ?_ ?_; rotate_left 1; (focus (intro w hSw; (try dsimp only at hSw); obtain ⟨g0, g1⟩ := hSw; go_simp; (try with_reducible rfl))); (try simp only [Act.put, List.setIfInBounds_toArray, List.set_cons_zero, List.set_cons_succ]))
          | (refine mv_loud0 (by rfl) (fun K hK => ?_)
             go_simp
             first
               | (go_at_call 23; refine (ql_dump HK3.out.q).mono ?_; rintro e w5 ⟨rfl, hb5⟩; have HK5 := Lib.hid (HK3.out.over hb5); clear HK3 hb5; refine hK.out _ _ ⟨HK5.out.c.read 0, HK5.out.c.read 1⟩ ?_; clear hHeld; have hHeld : (w5.cell? ⟨w.heap.size, 0, none⟩ = some (.int .u8 d) ∧ w5.cell? ⟨w.heap.size, 1, none⟩ = some (.int .u8 m)) := ⟨HK5.out.c.read 0, HK5.out.c.read 1⟩)
               | (go_at_call 18; refine (load_back g1 g2 g3 g4 hL HK5.out.fit).mono ?_; rintro e w6 ⟨R, rfl, hb6, hR6, hq6⟩; have HT := Lib.hid (show Tw w w6 w.heap.size d m _ _ (w.heap.size + 2) R Ns Ns from ⟨HK5.out.over hb6, hq6, HK5.out.fit, by have := HK5.out.q.inHeap; omega, by have := HK5.out.q.inHeap; omega⟩); clear HK5 hb6 hR6 hq6; refine hK.out _ _ ⟨HT.out.b.c.read 0, HT.out.b.c.read 1⟩ ?_; clear hHeld; have hHeld : (w6.cell? ⟨w.heap.size, 0, none⟩ = some (.int .u8 d) ∧ w6.cell? ⟨w.heap.size, 1, none⟩ = some (.int .u8 m)) := ⟨HT.out.b.c.read 0, HT.out.b.c.read 1⟩)
             clear hK K
             (try simp only [Act.put, List.setIfInBounds_toArray, List.set_cons_zero, List.set_cons_succ])))
        refine mv_calm ?_
        clear hHeld c0 c1
        go_wp2_with (go_at_call 23; first
          | (refine (ql_dump HT.out.r).mono ?_; rintro e w7 ⟨rfl, hb7⟩; have HT7 := Lib.hid (HT.out.over hb7); clear HT hb7)
          | (refine (ql_dump HT7.out.b.q).mono ?_; rintro e w8 ⟨rfl, hb8⟩; have HT8 := Lib.hid (HT7.out.over hb8); clear HT7 hb8))
        have hS := HT8.out
        have hlen1 := (fewB_of HB1.out).1
        have HL := Lib.hid (show l1.length = len1 from (D1.out w (Below.refl _ _)).1)
        clear HT8 HK2
        go_loopw [11] (fun i wr => ∃ (k : Nat) (Ns : List Sm), k ≤ len1 ∧ i = .int .i64 k ∧ Tw w wr w.heap.size d m (.slice a0 len0 cap0) (.slice a1 len1 cap1) (w.heap.size + 2) R Ns Ns) (fun i _ => len1 - (intOf i).toNat)
        case atStart => exact ⟨0, Ns, Nat.zero_le _, rfl, hS⟩
        case round =>
          obtain ⟨k, Ns, hk, rfl, hst⟩ := hrel
          clear hS
          have k1 : (0 : Int) ≤ (k : Int) := Int.natCast_nonneg _
          have e1 : wr.cell? ⟨w.heap.size + 1, 1, none⟩ = some (.slice a1 len1 cap1) := hst.b.l.read 1
          by_cases hlt : k < len1
          · obtain ⟨e, hk2⟩ : ∃ e, l1[k]? = some e := ⟨_, List.getElem?_eq_getElem (by rw [HL.out]; exact hlt)⟩
            obtain ⟨b, off, rfl, hbb, c0, c1, hn⟩ := (D1.out wr hst.b.bel).2 k e hk2
            have d0 : wr.cell? ⟨b, off + k * 2, none⟩ = some (.int .u8 e.k) := by rw [Nat.mul_comm]; exact c0
            have d1 : wr.cell? ⟨b, off + k * 2 + 1, none⟩ = some (.string e.s) := by rw [Nat.mul_comm]; exact c1
            have k2 : (k : Int) < (len1 : Int) := by omega
            rcases e with ⟨what, x⟩
            simp only at d0 d1 hn
            clear c0 c1 hk2 hbb
            have HW := Lib.hid (show w.heap.size + 2 < wr.heap.size from hst.b.q.inHeap)
            have HS := Lib.hid (hst.more (.cells #[.int .u8 what, .string x] 33))
            clear hst
            by_cases q4 : what % 8 < 4
            · have q4' : ((what : Int) % 8 < 4) := by omega
              go_wp2_with (go_at_call 15; first
                | (refine (HS.out.sendB x).mono ?_; rintro e w2 ⟨rfl, hz, ho⟩; have HS2 := Lib.hid hz; have a1 : w2.cell? ⟨wr.heap.size, 1, none⟩ = some (.string x) := ((Box.made wr 33 #[.int .u8 what, .string x]).only ho (by have := HW.out; omega)).read 1; clear HS hz ho)
                | (refine (HS2.out.sendR x).mono ?_; rintro e w3 ⟨rfl, hz⟩; have HS3 := Lib.hid hz; clear HS2 hz))
              go_roundw
              case rel => exact ⟨k + 1, _, by omega, by go_num, HS3.out⟩
              case measure => simp [intOf]; omega
            · have q4n : ¬ ((what : Int) % 8 < 4) := by omega
              go_wp2_with (first
                | (go_at_call 11; refine HS.out.recvB.mono ?_; rintro e w2 ⟨rfl, hz⟩; have HS2 := Lib.hid hz; clear HS hz)
                | (go_at_call 24; refine HS2.out.recvR.mono ?_; rintro e w3 ⟨rfl, hz⟩; have HS3 := Lib.hid hz; clear HS2 hz))
              go_roundw
              case rel => exact ⟨k + 1, _, by omega, by go_num, HS3.out⟩
              case measure => simp [intOf]; omega
          · have HST := Lib.hid hst
            have c0 : wr.cell? ⟨w.heap.size, 0, none⟩ = some (.int .u8 d) := hst.b.c.read 0
            have c1 : wr.cell? ⟨w.heap.size, 1, none⟩ = some (.int .u8 m) := hst.b.c.read 1
            clear hst
            by_cases hE : loadE s d m = 0
            · have HD := Lib.hid (load_some (wx := wr) g1 g2 g3 g4 s hsz hE)
              go_wp2_with (first
                | (go_at_call 18; refine HD.out.mono ?_; rintro e w5 ⟨R5, N5, rfl, hb5, hq5, hs5⟩; have HQ5 := Lib.hid hq5; have HB5 := Lib.hid (HST.out.b.bel.trans (hb5.mono HST.out.b.bel.size)); have HS5 := Lib.hid hs5; clear hq5 hb5 hs5 c0 c1 e1)
                | (go_at_call 23; refine (ql_dump HQ5.out).mono ?_; rw [HS5.out]; rintro e w6 ⟨rfl, hb6⟩; have HB6 := Lib.hid (HB5.out.trans (hb6.mono HB5.out.size)); clear hb6)
                | (go_at_call 10; refine (awake_any _).mono ?_; rintro e w7 ⟨rfl, bel⟩))
              go_ret
              exact ⟨rfl, HB6.out.trans (bel.mono HB6.out.size)⟩
            · have HD := load_none (wx := wr) g1 g2 g3 g4 s hsz
              generalize loadE s d m = z at hE HD
              have HD := Lib.hid HD
              have hE2 : (z == 0) = false := beq_eq_false_iff_ne.2 hE
              go_wp2_with (first
                | (go_at_call 18; refine HD.out.mono ?_; rintro e w5 ⟨P5, rfl, hb5⟩; have HB5 := Lib.hid (HST.out.b.bel.trans (hb5.mono HST.out.b.bel.size)); clear hb5 c0 c1 e1)
                | (go_at_call 10; refine (awake_any _).mono ?_; rintro e w7 ⟨rfl, bel⟩))
              go_ret
              exact ⟨rfl, HB5.out.trans (bel.mono HB5.out.size)⟩
end Go.Proofs.Ytnignbpgcopehaa
