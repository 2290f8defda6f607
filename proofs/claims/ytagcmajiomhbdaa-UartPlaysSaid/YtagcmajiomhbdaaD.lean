/- A line: Write, Input, Take, Dump. -/
import Derived.Test.YtagcmajiomhbdaaC
import Derived.WalkSmall
import Derived.Laws.BytesArg
set_option linter.unusedVariables false
set_option linter.unusedSimpArgs false
namespace Go.Proofs.Ytagcmajiomhbdaa
open Go.RowKit
def str (l : List UInt8) : ByteArray := ⟨l.toArray⟩
theorem vals_snoc (l : List UInt8) (c : UInt8) : vals l ++ [.int .u8 c.toNat] = vals (l ++ [c]) := by simp [vals]
section
variable {w w' w1 : World} {B : Nat} {s s' : US} {K L : Nat → Prop} {o q : Value}
theorem size_setCell (w : World) (p : Addr) (u : Value) : (w.setCell p u).heap.size = w.heap.size := by simp [World.setCell]
/-- A byte was sent. -/
theorem Uv.sent (h : Uv w B s K o q) (c : UInt8) {x : Obj} {a' : Option Addr} {n' cap' : Nat} (hl : Lane w1 5 (.slice a' n' cap') (vals s.out ++ [.int .u8 c.toNat])) (hg : (w.alloc x).grownBy w1 o.ownBlock) (hb : ∀ k, (Value.slice a' n' cap').ownBlock = some k → o.ownBlock = some k ∨ (w.heap.size + 1 ≤ k ∧ k < w1.heap.size)) :
    Ua (w1.setCell ⟨B, 0, none⟩ (.slice a' n' cap')) B { s with out := s.out ++ [c] } (_root_.Go.Proofs.Ytagcmajiomhbdaa.grew K w (w1.setCell ⟨B, 0, none⟩ (.slice a' n' cap'))) ∧ Touch K w (w1.setCell ⟨B, 0, none⟩ (.slice a' n' cap')) := by
  have hx := h.more x
  have hfo := h.lo.far h.box (by decide)
  have hbox : Box w1 B 49 (uc s o q) := (hg.block B hx.box.inHeap (fun e => hfo e.symm)).trans hx.box
  have hq : Lane w1 5 q (vals s.q) := hx.lq.kept hg (by
    by_cases e : q.ownBlock = none
    · exact .inl e
    · right
      intro e2
      obtain ⟨k, hk⟩ := Option.ne_none_iff_exists'.1 e
      exact h.ne k (e2 ▸ hk) hk)
  have hs : (w.alloc x).heap.size = w.heap.size + 1 := by simp
  have hsz := hg.size
  have hqlt := h.lq.lt
  rw [vals_snoc] at hl
  refine ⟨⟨_, q, ⟨box_eq (hbox.put 0 _) (by kernel_rfl), hl.putFar hbox (by decide) _, hq.putFar hbox (by decide) _, .inl h.kB, fun k e => ?_, fun k e => .inl (h.kq k e), fun k e e2 => ?_, ⟨h.ok.ier, h.ok.lcr, h.ok.mcr, h.ok.scr, h.ok.d0, h.ok.d1, h.ok.q⟩⟩⟩, (((Touch.refl K w).more x).grown hg fun k e => .inl (h.ko k e)).put (.inl h.kB) _⟩
  · rcases hb k e with h1 | h1
    · exact .inl (h.ko k h1)
    · exact .inr ⟨by omega, by rw [size_setCell]; exact h1.2⟩
  · rcases hb k e with h1 | h1
    · exact h.ne k h1 e2
    · have := hqlt k e2; omega
/-- A byte was laid behind what is in the queue. -/
theorem Uv.laid (h : Uv w B s K o q) (c : UInt8) (h16 : s.q.length < 16) {x : Obj} {a' : Option Addr} {n' cap' : Nat} (hl : Lane w1 5 (.slice a' n' cap') (vals s.q ++ [.int .u8 c.toNat])) (hg : (w.alloc x).grownBy w1 q.ownBlock) (hb : ∀ k, (Value.slice a' n' cap').ownBlock = some k → q.ownBlock = some k ∨ (w.heap.size + 1 ≤ k ∧ k < w1.heap.size)) :
    Ua (w1.setCell ⟨B, 7, none⟩ (.slice a' n' cap')) B { s with q := s.q ++ [c] } (_root_.Go.Proofs.Ytagcmajiomhbdaa.grew K w (w1.setCell ⟨B, 7, none⟩ (.slice a' n' cap'))) ∧ Touch K w (w1.setCell ⟨B, 7, none⟩ (.slice a' n' cap')) := by
  have hx := h.more x
  have hfo := h.lq.far h.box (by decide)
  have hbox : Box w1 B 49 (uc s o q) := (hg.block B hx.box.inHeap (fun e => hfo e.symm)).trans hx.box
  have hq : Lane w1 5 o (vals s.out) := hx.lo.kept hg (by
    by_cases e : o.ownBlock = none
    · exact .inl e
    · right
      intro e2
      obtain ⟨k, hk⟩ := Option.ne_none_iff_exists'.1 e
      exact h.ne k hk (e2 ▸ hk))
  have hs : (w.alloc x).heap.size = w.heap.size + 1 := by simp
  have hsz := hg.size
  have hqlt := h.lo.lt
  rw [vals_snoc] at hl
  refine ⟨⟨o, _, ⟨box_eq (hbox.put 7 _) (by kernel_rfl), hq.putFar hbox (by decide) _, hl.putFar hbox (by decide) _, .inl h.kB, fun k e => .inl (h.ko k e), fun k e => ?_, fun k e e2 => ?_, ⟨h.ok.ier, h.ok.lcr, h.ok.mcr, h.ok.scr, h.ok.d0, h.ok.d1, by simp; omega⟩⟩⟩, (((Touch.refl K w).more x).grown hg fun k e => .inl (h.kq k e)).put (.inl h.kB) _⟩
  · rcases hb k e with h1 | h1
    · exact .inl (h.kq k h1)
    · exact .inr ⟨by omega, by rw [size_setCell]; exact h1.2⟩
  · rcases hb k e2 with h1 | h1
    · exact h.ne k e h1
    · have := hqlt k e; omega
set_option maxHeartbeats 1000000 in
theorem send_any (h : Uv w B s K o q) (c : UInt8) (hn : s.out.length ≤ 1000000) : Calls Try.prog 37 #[.pointer (some ⟨B, 0, none⟩), .int .u8 c.toNat] w fun e w' => e = .returned (.tuple #[]) ∧ Ua w' B { s with out := s.out ++ [c] } (_root_.Go.Proofs.Ytagcmajiomhbdaa.grew K w w') ∧ Touch K w w' := by
  obtain ⟨i0, hi, iz0, iz1, iz2⟩ := info_parts info5
  obtain ⟨a, cap, rfl, _⟩ := h.lo.shape
  rw [vals_len] at h
  have c0 : w.cell? ⟨B, 0, none⟩ = some (.slice a s.out.length cap) := h.box.read 0
  have hvl := vals_len s.out
  have HU := Lib.hid h
  have hlo := h.lo
  clear h
  go_enter Try.func37, Try.ntmps37
  go_wp2_with (at_builtin; go_loud (refine wpList_append_lane rfl _ _ 41 rfl 5 i0 (.int .u8 0) 1 Try.underlying41 hi iz0 iz1 iz2 (by decide) (.slice a s.out.length cap) (.slice (some ⟨w.heap.size, 0, none⟩) 1 1) (vals s.out) [.int .u8 c.toNat] rfl rfl (hlo.more _) (Lane.lit _ _ #[.int .u8 c.toNat] (by simp [maxLen])) ?c1 ?c2 ?c3 ?_))
  case c1 => intro u hu; simp at hu; subst hu; rfl
  case c2 => simp only [List.length_singleton, maxLen]; omega
  case c3 => simp only [List.length_singleton]; omega
  · intro v' w2 hl2 hg2 hb2
    obtain ⟨a2, cap2, rfl, _⟩ := hl2.shape
    have H2 := Lib.hid (HU.out.sent c hl2 hg2 hb2)
    have hfo := HU.out.lo.far HU.out.box (by decide)
    have hbx : Box w2 B 49 (uc s (.slice a s.out.length cap) q) := (hg2.block B (HU.out.more _).box.inHeap (fun e => hfo e.symm)).trans (HU.out.more _).box
    have d0 : w2.cell? ⟨B, 0, none⟩ = some (.slice a s.out.length cap) := hbx.read 0
    have f0 := hbx.warm 0
    simp only [List.length_append, vals_len, List.length_singleton] at H2 ⊢
    clear hl2 hg2 hb2 hbx hfo hlo hvl c0
    go_wp2
    go_end0
    exact ⟨rfl, H2.out⟩
/-! Writes -/
def US.wr (s : US) (off : Nat) (c : UInt8) : US := match off with
  | 0 => if 128 ≤ s.lcr then { s with d0 := c.toNat } else { s with out := s.out ++ [c], dn := true }
  | 1 => if 128 ≤ s.lcr then { s with d1 := c.toNat } else { s with dn := if s.ier / 2 % 2 = 0 ∧ c.toNat / 2 % 2 = 1 then true else s.dn, ier := c.toNat % 16 }
  | 2 => { s with en := decide (c.toNat % 2 = 1), q := if c.toNat / 2 % 2 = 1 then [] else s.q }
  | 3 => { s with lcr := c.toNat }
  | 4 => { s with mcr := c.toNat % 32 }
  | 7 => { s with scr := c.toNat }
  | _ => s
/-- What a write does to memory. -/
def Wr (K : Nat → Prop) (B : Nat) (s' : US) (w w' : World) : Prop := Ua w' B s' (_root_.Go.Proofs.Ytagcmajiomhbdaa.grew K w w') ∧ Touch K w w'
theorem Wr.same (h : Ua w B s K) : Wr K B s w w := ⟨h.mono fun k hk => .inl hk, Touch.refl K w⟩
theorem Wr.of {u : Value} {i : Nat} (h : Uv (w.setCell ⟨B, i, none⟩ u) B s' K o q) (hB : K B) : Wr K B s' w (w.setCell ⟨B, i, none⟩ u) := ⟨⟨o, q, h.mono fun k hk => .inl hk⟩, (Touch.refl K w).put (.inl hB) u⟩
theorem wrote_end (e : Ending) : (e = .returned (.tuple #[])) → e = .returned (.tuple #[]) := id
set_option maxHeartbeats 1000000 in
theorem write0 (h : Uv w B s K o q) (c : UInt8) (hl : ¬ 128 ≤ s.lcr) (hn : s.out.length ≤ 1000000) : Calls Try.prog 33 #[.pointer (some ⟨B, 0, none⟩), .int .u64 0, .int .u8 c.toNat] w fun e w' => e = .returned (.tuple #[]) ∧ Wr K B (s.wr 0 c) w w' := by
  have e1 : s.wr 0 c = { s with out := s.out ++ [c], dn := true } := if_neg hl
  rw [e1]
  have HS := Lib.hid (send_any h c hn)
  have hKB := h.kB
  clear h e1
  go_enter Try.func33, Try.ntmps33
  go_wp2_with (go_at_call 37; refine HS.out.mono ?_; rintro e w1 ⟨rfl, hu, ht⟩; obtain ⟨o1, q1, hv⟩ := hu; have d10 : w1.cell? ⟨B, 10, none⟩ = some (.bool s.dn) := hv.box.read 10; have f10 := hv.box.warm 10; have HV := Lib.hid hv; clear hv)
  go_end0
  have hv := HV.out
  refine ⟨rfl, ⟨o1, q1, ?_⟩, ht.trans ((Touch.refl _ w1).put (.inl (.inl hKB)) _)⟩
  · have := hv.put 10 (.bool true) { s with out := s.out ++ [c], dn := true } (by kernel_rfl) rfl rfl ⟨hv.ok.ier, hv.ok.lcr, hv.ok.mcr, hv.ok.scr, hv.ok.d0, hv.ok.d1, hv.ok.q⟩
    exact this.mono fun k hk => by
      rcases hk with h1 | h1
      · exact .inl h1
      · exact .inr ⟨h1.1, by rw [size_setCell]; exact h1.2⟩
set_option maxHeartbeats 1000000 in
theorem write1 (h : Uv w B s K o q) (c : UInt8) (hl : ¬ 128 ≤ s.lcr) : Calls Try.prog 33 #[.pointer (some ⟨B, 0, none⟩), .int .u64 1, .int .u8 c.toNat] w fun e w' => e = .returned (.tuple #[]) ∧ Wr K B (s.wr 1 c) w w' := by
  have e1 : s.wr 1 c = { s with dn := if s.ier / 2 % 2 = 0 ∧ c.toNat / 2 % 2 = 1 then true else s.dn, ier := c.toNat % 16 } := if_neg hl
  rw [e1]
  have hc := UInt8.toNat_lt c
  have hi : s.ier < 256 := by have := h.ok.ier; omega
  have m15 : bits .and .u8 (c.toNat : Int) 15 = ((c.toNat % 16 : Nat) : Int) := and15 hc
  have hb : c.toNat % 16 < 16 := Nat.mod_lt _ (by decide)
  have c1 : w.cell? ⟨B, 1, none⟩ = some (.int .u8 s.ier) := h.box.read 1
  have c10 : w.cell? ⟨B, 10, none⟩ = some (.bool s.dn) := h.box.read 10
  have f1 := h.box.warm 1
  have f10 := h.box.warm 10
  have h1 : Uv (w.setCell ⟨B, 10, none⟩ (.bool true)) B { s with dn := true } K o q := h.put 10 _ _ (by kernel_rfl) rfl rfl ⟨h.ok.ier, h.ok.lcr, h.ok.mcr, h.ok.scr, h.ok.d0, h.ok.d1, h.ok.q⟩
  generalize hm : c.toNat % 16 = m at m15 hb ⊢
  have H1 : Hid (Wr K B { s with dn := true, ier := m } w ((w.setCell ⟨B, 10, none⟩ (.bool true)).setCell ⟨B, 1, none⟩ (.int .u8 m))) :=
    ⟨⟨o, q, (h1.put 1 _ { s with dn := true, ier := m } (by kernel_rfl) rfl rfl ⟨hb, h.ok.lcr, h.ok.mcr, h.ok.scr, h.ok.d0, h.ok.d1, h.ok.q⟩).mono fun k hk => .inl hk⟩, ((Touch.refl K w).put (.inl h.kB) _).put (.inl h.kB) _⟩
  have H0 : Hid (Wr K B { s with ier := m } w (w.setCell ⟨B, 1, none⟩ (.int .u8 m))) :=
    Wr.of (h.put 1 _ { s with ier := m } (by kernel_rfl) rfl rfl ⟨hb, h.ok.lcr, h.ok.mcr, h.ok.scr, h.ok.d0, h.ok.d1, h.ok.q⟩) h.kB
  clear h h1 e1
  have HM := Lib.hid hm
  clear hm
  rcases and2c hi with ⟨a2, q2⟩ | ⟨a2, q2⟩ <;> rcases and2c hc with ⟨b2, r2⟩ | ⟨b2, r2⟩
  all_goals
    have HX := Lib.hid (And.intro q2 r2)
    clear q2 r2 hi hc
    go_enter Try.func33, Try.ntmps33
    go_wp2
    all_goals
      go_end0
      obtain ⟨q2, r2⟩ := HX.out
      refine ⟨rfl, ?_⟩
      first | exact H0.out | exact H1.out | (exfalso; omega)
set_option maxHeartbeats 1000000 in
theorem write2 (h : Uv w B s K o q) (c : UInt8) : Calls Try.prog 33 #[.pointer (some ⟨B, 0, none⟩), .int .u64 2, .int .u8 c.toNat] w fun e w' => e = .returned (.tuple #[]) ∧ Wr K B (s.wr 2 c) w w' := by
  have e1 : s.wr 2 c = { s with en := decide (c.toNat % 2 = 1), q := if c.toNat / 2 % 2 = 1 then [] else s.q } := rfl
  rw [e1]
  have hc := UInt8.toNat_lt c
  obtain ⟨a, cap, rfl, _⟩ := h.lq.shape
  have c8 : w.cell? ⟨B, 8, none⟩ = some (.bool s.en) := h.box.read 8
  have c7 : w.cell? ⟨B, 7, none⟩ = some (.slice a (vals s.q).length cap) := h.box.read 7
  have f8 := h.box.warm 8
  have f7 := h.box.warm 7
  have h1 : ∀ en, Uv (w.setCell ⟨B, 8, none⟩ (.bool en)) B { s with en := en } K o (.slice a (vals s.q).length cap) := fun en => h.put 8 _ _ (by kernel_rfl) rfl rfl ⟨h.ok.ier, h.ok.lcr, h.ok.mcr, h.ok.scr, h.ok.d0, h.ok.d1, h.ok.q⟩
  have H0 : Hid (∀ en, Wr K B { s with en := en } w (w.setCell ⟨B, 8, none⟩ (.bool en))) := fun en => Wr.of (h1 en) h.kB
  have H1 : Hid (∀ en, Wr K B { s with en := en, q := [] } w ((w.setCell ⟨B, 8, none⟩ (.bool en)).setCell ⟨B, 7, none⟩ (.slice none 0 0))) := fun en =>
    ⟨⟨o, .slice none 0 0, ⟨box_eq ((h1 en).box.put 7 _) (by kernel_rfl), (h1 en).lo.putFar (h1 en).box (by decide) _, Lane.nil _ _, .inl h.kB, fun k e => .inl (h.ko k e), (fun k e => by cases e), (fun k e e2 => by cases e2), ⟨h.ok.ier, h.ok.lcr, h.ok.mcr, h.ok.scr, h.ok.d0, h.ok.d1, by simp⟩⟩⟩, ((Touch.refl K w).put (.inl h.kB) _).put (.inl h.kB) _⟩
  clear h h1 e1
  rcases and2c hc with ⟨a2, q2⟩ | ⟨a2, q2⟩ <;> rcases and1c hc with ⟨b2, r2⟩ | ⟨b2, r2⟩
  all_goals
    have HX := Lib.hid (And.intro q2 r2)
    clear q2 r2 hc
    go_enter Try.func33, Try.ntmps33
    go_wp2
    all_goals
      go_end0
      obtain ⟨q2, r2⟩ := HX.out
      refine ⟨rfl, ?_⟩
      first | (simp only [r2]; exact H0.out _) | (simp only [r2]; exact H1.out _) | (exfalso; omega)
set_option maxHeartbeats 1000000 in
theorem write3 (h : Uv w B s K o q) (c : UInt8) (off : Nat) (ho : off = 3 ∨ off = 4 ∨ off = 5 ∨ off = 6 ∨ off = 7) : Calls Try.prog 33 #[.pointer (some ⟨B, 0, none⟩), .int .u64 off, .int .u8 c.toNat] w fun e w' => e = .returned (.tuple #[]) ∧ Wr K B (s.wr off c) w w' := by
  have hc := UInt8.toNat_lt c
  have c2 : w.cell? ⟨B, 2, none⟩ = some (.int .u8 s.lcr) := h.box.read 2
  have c3 : w.cell? ⟨B, 3, none⟩ = some (.int .u8 s.mcr) := h.box.read 3
  have c4 : w.cell? ⟨B, 4, none⟩ = some (.int .u8 s.scr) := h.box.read 4
  have f2 := h.box.warm 2
  have f3 := h.box.warm 3
  have f4 := h.box.warm 4
  have m31 : bits .and .u8 (c.toNat : Int) 31 = ((c.toNat % 32 : Nat) : Int) := and31 hc
  have H3 : Hid (Wr K B (s.wr 3 c) w (w.setCell ⟨B, 2, none⟩ (.int .u8 c.toNat))) :=
    Wr.of (h.put 2 _ { s with lcr := c.toNat } (by kernel_rfl) rfl rfl ⟨h.ok.ier, hc, h.ok.mcr, h.ok.scr, h.ok.d0, h.ok.d1, h.ok.q⟩) h.kB
  have hb : c.toNat % 32 < 256 := by omega
  have H4 : Hid (Wr K B (s.wr 4 c) w (w.setCell ⟨B, 3, none⟩ (.int .u8 (c.toNat % 32 : Nat)))) :=
    Wr.of (h.put 3 _ { s with mcr := c.toNat % 32 } (by kernel_rfl) rfl rfl ⟨h.ok.ier, h.ok.lcr, hb, h.ok.scr, h.ok.d0, h.ok.d1, h.ok.q⟩) h.kB
  have H7 : Hid (Wr K B (s.wr 7 c) w (w.setCell ⟨B, 4, none⟩ (.int .u8 c.toNat))) :=
    Wr.of (h.put 4 _ { s with scr := c.toNat } (by kernel_rfl) rfl rfl ⟨h.ok.ier, h.ok.lcr, h.ok.mcr, hc, h.ok.d0, h.ok.d1, h.ok.q⟩) h.kB
  have H5 : Hid (Wr K B s w w) := Wr.same ⟨o, q, h⟩
  clear h hb hc
  generalize hm : c.toNat % 32 = m at m31 H4
  clear hm
  obtain rfl | rfl | rfl | rfl | rfl := ho
  all_goals
    go_enter Try.func33, Try.ntmps33
    go_wp2
    go_end0
    first | exact ⟨rfl, H3.out⟩ | exact ⟨rfl, H4.out⟩ | exact ⟨rfl, H7.out⟩ | exact ⟨rfl, H5.out⟩
end
end Go.Proofs.Ytagcmajiomhbdaa
