/- A line: what it is in memory; what its methods answer. -/
import Derived.Test.YtagcmajiomhbdaaRows
import Derived.Test.YtagcmajiomhbdaaLn
set_option linter.unusedVariables false
set_option linter.unusedSimpArgs false
namespace Go.Proofs.Ytagcmajiomhbdaa
open Go.RowKit

theorem info5 : (Try.prog.info? 5).map (fun i => (i.zero, i.size, i.bytes)) = some (some (.int .u8 0), 1, 1) := by kernel_rfl
theorem bool_eq {a b : Bool} (h : a = b) : Ending.returned (.bool a) = .returned (.bool b) := by rw [h]
/-- A line's registers, its queue, what was sent. -/
structure US where
  ier : Nat
  lcr : Nat
  mcr : Nat
  scr : Nat
  d0 : Nat
  d1 : Nat
  q : List UInt8
  out : List UInt8
  en : Bool
  ov : Bool
  dn : Bool
def US.zero : US := ⟨0, 0, 0, 0, 0, 0, [], [], false, false, false⟩
structure US.ok (s : US) : Prop where
  ier : s.ier < 16
  lcr : s.lcr < 256
  mcr : s.mcr < 256
  scr : s.scr < 256
  d0 : s.d0 < 256
  d1 : s.d1 < 256
  q : s.q.length ≤ 16
def vals (l : List UInt8) : List Value := l.map fun c => .int .u8 c.toNat
theorem vals_len (l : List UInt8) : (vals l).length = l.length := by simp [vals]
def uc (s : US) (o q : Value) : Array Value := #[o, .int .u8 s.ier, .int .u8 s.lcr, .int .u8 s.mcr, .int .u8 s.scr, .int .u8 s.d0, .int .u8 s.d1, q, .bool s.en, .bool s.ov, .bool s.dn]
structure Uv (w : World) (B : Nat) (s : US) (K : Nat → Prop) (o q : Value) : Prop where
  box : Box w B 49 (uc s o q)
  lo : Lane w 5 o (vals s.out)
  lq : Lane w 5 q (vals s.q)
  kB : K B
  ko : ∀ k, o.ownBlock = some k → K k
  kq : ∀ k, q.ownBlock = some k → K k
  ne : ∀ k, o.ownBlock = some k → q.ownBlock ≠ some k
  ok : s.ok
/-- A line in memory, of blocks of K. -/
def Ua (w : World) (B : Nat) (s : US) (K : Nat → Prop) : Prop := ∃ o q, Uv w B s K o q
section
variable {w w' : World} {B : Nat} {s s' : US} {K L : Nat → Prop} {o q : Value}
theorem Uv.mono (h : Uv w B s K o q) (hKL : ∀ k, K k → L k) : Uv w B s L o q := ⟨h.box, h.lo, h.lq, hKL _ h.kB, fun k e => hKL _ (h.ko k e), fun k e => hKL _ (h.kq k e), h.ne, h.ok⟩
theorem Uv.grew (h : Uv w B s K o q) (w1 w2 : World) : Uv w B s (grew K w1 w2) o q := h.mono fun k hk => .inl hk
theorem Uv.drawn (h : Uv w B s K o q) (n : Nat) : Uv (w.drewN n) B s K o q := ⟨h.box.drawn n, h.lo.drawn n, h.lq.drawn n, h.kB, h.ko, h.kq, h.ne, h.ok⟩
theorem Uv.more (h : Uv w B s K o q) (x : Obj) : Uv (w.alloc x) B s K o q := ⟨h.box.more x, h.lo.more x, h.lq.more x, h.kB, h.ko, h.kq, h.ne, h.ok⟩
theorem Uv.put (h : Uv w B s K o q) (i : Nat) (u : Value) (s' : US) (e : (uc s o q).setIfInBounds i u = uc s' o q) (ho : s'.out = s.out) (hq : s'.q = s.q) (hok : s'.ok) : Uv (w.setCell ⟨B, i, none⟩ u) B s' K o q :=
  ⟨box_eq (h.box.put i u) e, by rw [ho]; exact h.lo.putFar h.box (by decide) u, by rw [hq]; exact h.lq.putFar h.box (by decide) u, h.kB, h.ko, h.kq, h.ne, hok⟩
theorem Uv.touch (h : Uv w B s K o q) (k : Touch L w w') (hd : ∀ b, K b → ¬ L b) : Uv w' B s K o q :=
  ⟨h.box.touch k (hd _ h.kB), h.lo.touch k (fun b e => hd _ (h.ko b e)), h.lq.touch k (fun b e => hd _ (h.kq b e)), h.kB, h.ko, h.kq, h.ne, h.ok⟩
theorem Ua.mono (h : Ua w B s K) (hKL : ∀ k, K k → L k) : Ua w B s L := by obtain ⟨o, q, h⟩ := h; exact ⟨o, q, h.mono hKL⟩
theorem Ua.drawn (h : Ua w B s K) (n : Nat) : Ua (w.drewN n) B s K := by obtain ⟨o, q, h⟩ := h; exact ⟨o, q, h.drawn n⟩
theorem Ua.more (h : Ua w B s K) (x : Obj) : Ua (w.alloc x) B s K := by obtain ⟨o, q, h⟩ := h; exact ⟨o, q, h.more x⟩
theorem Ua.touch (h : Ua w B s K) (k : Touch L w w') (hd : ∀ b, K b → ¬ L b) : Ua w' B s K := by obtain ⟨o, q, h⟩ := h; exact ⟨o, q, h.touch k hd⟩
end
theorem new_any (w : World) : Calls Try.prog 9 #[] w fun e w' => e = .returned (.pointer (some ⟨w.heap.size, 0, none⟩)) ∧ w' = w.alloc (.cells (uc .zero (.slice none 0 0) (.slice none 0 0)) 49) := by
  go_enter Try.func9, Try.ntmps9
  go_wp2_with (refine wpList_build_to rfl 49 _ rfl (uc .zero (.slice none 0 0) (.slice none 0 0)) (by kernel_rfl) ?_)
  go_ret
  exact ⟨rfl, rfl⟩
theorem zero_ok : US.zero.ok := ⟨by decide, by decide, by decide, by decide, by decide, by decide, by decide⟩
theorem new_ua (w : World) {K : Nat → Prop} (hK : K w.heap.size) : Ua (w.alloc (.cells (uc .zero (.slice none 0 0) (.slice none 0 0)) 49)) w.heap.size .zero K :=
  ⟨_, _, ⟨Box.made _ _ _, Lane.nil _ _, Lane.nil _ _, hK, (fun k h => by cases h), (fun k h => by cases h), (fun k h => by cases h), zero_ok⟩⟩
/-! Masks -/
theorem fin_and1 : ∀ n : Fin 256, bits .and .u8 ((n.1 : Nat) : Int) 1 = ((n.1 % 2 : Nat) : Int) := by decide +kernel
theorem fin_and2 : ∀ n : Fin 256, bits .and .u8 ((n.1 : Nat) : Int) 2 = ((n.1 / 2 % 2 * 2 : Nat) : Int) := by decide +kernel
theorem fin_and4 : ∀ n : Fin 256, bits .and .u8 ((n.1 : Nat) : Int) 4 = ((n.1 / 4 % 2 * 4 : Nat) : Int) := by decide +kernel
theorem fin_and128 : ∀ n : Fin 256, bits .and .u8 ((n.1 : Nat) : Int) 128 = ((n.1 / 128 * 128 : Nat) : Int) := by decide +kernel
theorem fin_and15 : ∀ n : Fin 256, bits .and .u8 ((n.1 : Nat) : Int) 15 = ((n.1 % 16 : Nat) : Int) := by decide +kernel
theorem fin_and31 : ∀ n : Fin 256, bits .and .u8 ((n.1 : Nat) : Int) 31 = ((n.1 % 32 : Nat) : Int) := by decide +kernel
theorem and1 {n : Nat} (h : n < 256) : bits .and .u8 (n : Int) 1 = ((n % 2 : Nat) : Int) := fin_and1 ⟨n, h⟩
theorem and2 {n : Nat} (h : n < 256) : bits .and .u8 (n : Int) 2 = ((n / 2 % 2 * 2 : Nat) : Int) := fin_and2 ⟨n, h⟩
theorem and4 {n : Nat} (h : n < 256) : bits .and .u8 (n : Int) 4 = ((n / 4 % 2 * 4 : Nat) : Int) := fin_and4 ⟨n, h⟩
theorem and128 {n : Nat} (h : n < 256) : bits .and .u8 (n : Int) 128 = ((n / 128 * 128 : Nat) : Int) := fin_and128 ⟨n, h⟩
theorem and15 {n : Nat} (h : n < 256) : bits .and .u8 (n : Int) 15 = ((n % 16 : Nat) : Int) := fin_and15 ⟨n, h⟩
theorem and31 {n : Nat} (h : n < 256) : bits .and .u8 (n : Int) 31 = ((n % 32 : Nat) : Int) := fin_and31 ⟨n, h⟩
theorem and1c {n : Nat} (h : n < 256) : (bits .and .u8 (n : Int) 1 = 0 ∧ n % 2 = 0) ∨ (bits .and .u8 (n : Int) 1 = 1 ∧ n % 2 = 1) := by rw [and1 h]; omega
theorem and2c {n : Nat} (h : n < 256) : (bits .and .u8 (n : Int) 2 = 0 ∧ n / 2 % 2 = 0) ∨ (bits .and .u8 (n : Int) 2 = 2 ∧ n / 2 % 2 = 1) := by rw [and2 h]; omega
theorem and4c {n : Nat} (h : n < 256) : (bits .and .u8 (n : Int) 4 = 0 ∧ n / 4 % 2 = 0) ∨ (bits .and .u8 (n : Int) 4 = 4 ∧ n / 4 % 2 = 1) := by rw [and4 h]; omega
theorem and128c {n : Nat} (h : n < 256) : (bits .and .u8 (n : Int) 128 = 0 ∧ n < 128) ∨ (bits .and .u8 (n : Int) 128 = 128 ∧ 128 ≤ n) := by rw [and128 h]; omega
/-! What is asked for -/
def US.asks (s : US) : Nat := if s.ier / 4 % 2 = 1 ∧ s.ov = true then 6 else if s.ier % 2 = 1 ∧ s.q ≠ [] then 4 else if s.ier / 2 % 2 = 1 ∧ s.dn = true then 2 else 1
theorem asks_cases (s : US) : s.asks = 1 ∨ s.asks = 2 ∨ s.asks = 4 ∨ s.asks = 6 := by unfold US.asks; (repeat' split) <;> simp
section
variable {w w' : World} {B : Nat} {s s' : US} {K L : Nat → Prop} {o q : Value}
theorem waiting_any (h : Uv w B s K o q) : Calls Try.prog 13 #[.pointer (some ⟨B, 0, none⟩)] w fun e w' => e = .returned (.int .i64 s.q.length) ∧ w = w' := by
  obtain ⟨a, cap, rfl, _⟩ := h.lq.shape
  have c7 : w.cell? ⟨B, 7, none⟩ = some (.slice a (vals s.q).length cap) := h.box.read 7
  rw [vals_len] at c7
  go_enter Try.func13, Try.ntmps13
  go_wp2
  go_ret
  exact ⟨rfl, rfl⟩
theorem dlab_any (h : Uv w B s K o q) : Calls Try.prog 32 #[.pointer (some ⟨B, 0, none⟩)] w fun e w' => e = .returned (.bool (decide (128 ≤ s.lcr))) ∧ w = w' := by
  have c2 : w.cell? ⟨B, 2, none⟩ = some (.int .u8 s.lcr) := h.box.read 2
  have hl := h.ok.lcr
  rcases and128c hl with ⟨e, hl2⟩ | ⟨e, hl2⟩
  all_goals
    go_enter Try.func32, Try.ntmps32
    go_wp2
    go_ret
    exact ⟨bool_eq (by simp [hl2]), rfl⟩
set_option maxHeartbeats 4000000 in
theorem asks_any (h : Uv w B s K o q) : Calls Try.prog 27 #[.pointer (some ⟨B, 0, none⟩)] w fun e w' => e = .returned (.int .u8 s.asks) ∧ w = w' := by
  obtain ⟨a, cap, rfl, _⟩ := h.lq.shape
  have c7 : w.cell? ⟨B, 7, none⟩ = some (.slice a (vals s.q).length cap) := h.box.read 7
  rw [vals_len] at c7
  have c1 : w.cell? ⟨B, 1, none⟩ = some (.int .u8 s.ier) := h.box.read 1
  have c9 : w.cell? ⟨B, 9, none⟩ = some (.bool s.ov) := h.box.read 9
  have c10 : w.cell? ⟨B, 10, none⟩ = some (.bool s.dn) := h.box.read 10
  have hi : s.ier < 256 := by have := h.ok.ier; omega
  clear h
  rcases s with ⟨ier, lcr, mcr, scr, d0, d1, q, out, en, ov, dn⟩
  simp only at c1 c7 c9 c10 hi ⊢
  rcases and1c hi with ⟨e1, h1⟩ | ⟨e1, h1⟩ <;> rcases and2c hi with ⟨e2, h2⟩ | ⟨e2, h2⟩ <;> rcases and4c hi with ⟨e4, h4⟩ | ⟨e4, h4⟩ <;> cases ov <;> cases dn <;> rcases q with _ | ⟨c, q⟩
  all_goals
    have HX := Lib.hid (And.intro h1 (And.intro h2 h4))
    clear h1 h2 h4 hi
    go_enter Try.func27, Try.ntmps27
    go_wp2
    go_ret
    exact ⟨ret_eq (by obtain ⟨h1, h2, h4⟩ := HX.out; simp [US.asks, h1, h2, h4]), rfl⟩
theorem level_any (h : Uv w B s K o q) : Calls Try.prog 11 #[.pointer (some ⟨B, 0, none⟩)] w fun e w' => e = .returned (.bool (decide (s.asks ≠ 1))) ∧ w = w' := by
  have ha := asks_any h
  have hc := asks_cases s
  generalize s.asks = n at ha hc
  have HA := Lib.hid ha
  clear ha h
  rcases hc with rfl | rfl | rfl | rfl
  all_goals
    go_enter Try.func11, Try.ntmps11
    go_wp2_with (go_at_call 27; refine HA.out.mono ?_; rintro e w' ⟨rfl, rfl⟩)
    go_ret
    exact ⟨rfl, rfl⟩
end
end Go.Proofs.Ytagcmajiomhbdaa
