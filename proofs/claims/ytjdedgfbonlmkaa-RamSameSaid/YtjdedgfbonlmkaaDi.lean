/- The two memories side by side: what a call of both leaves. -/
import Derived.Test.YtjdedgfbonlmkaaDh
set_option linter.unusedVariables false
set_option linter.unusedSimpArgs false
namespace Go.Proofs.Ytjdedgfbonlmkaa
open Go.RowKit
/-- What a call of both may turn. -/
structure Fr (B g C base : Nat) (w w' : World) : Prop where
  os : w'.os = w.os
  tape : w'.tape = w.tape
  output : w'.output = w.output
  size : w.heap.size ≤ w'.heap.size
  block : ∀ k, k < w.heap.size → k ≠ B → k ≠ g → k ≠ C → (k < base ∨ ∃ cs t fz, w.heap[k]? = some (.cells cs t fz) ∧ t ≠ 44) → w'.heap[k]? = w.heap[k]?
section
variable {w w' w'' wr w1 w2 : World} {B g C N W A D base k : Nat} {l : List UInt8} {L : List Ent} {v : Value} {t : TypeId} {cs : Array Value}
theorem Fr.refl (B g C base : Nat) (w : World) : Fr B g C base w w := ⟨rfl, rfl, rfl, Nat.le_refl _, fun _ _ _ _ _ _ => rfl⟩
theorem Fr.trans (h : Fr B g C base w w') (k : Fr B g C base w' w'') : Fr B g C base w w'' :=
  ⟨k.os.trans h.os, k.tape.trans h.tape, k.output.trans h.output, Nat.le_trans h.size k.size, fun i hi h1 h2 h3 hk => by
    have e := h.block i hi h1 h2 h3 hk
    refine (k.block i (Nat.lt_of_lt_of_le hi h.size) h1 h2 h3 ?_).trans e
    rcases hk with hk | ⟨cs, t, fz, h1, h2⟩
    · exact .inl hk
    · exact .inr ⟨cs, t, fz, e.trans h1, h2⟩⟩
theorem Fr.ofTouch (h : Touch (Own2 B g) w w') : Fr B g C base w w' := ⟨h.os, h.tape, h.output, h.size, fun i hi h1 h2 _ _ => h.block i hi (by rintro (rfl | rfl) <;> contradiction)⟩
theorem Fr.ofDt (h : Dt C base w w') : Fr B g C base w w' := ⟨h.os, h.tape, h.output, h.size, fun i hi _ _ h3 hk => h.block i hi h3 hk⟩
theorem Fr.ofBelow (h : Below w.heap.size w w') : Fr B g C base w w' := ⟨h.os, h.tape, h.output, h.size, fun i hi _ _ _ _ => h.block i hi⟩
theorem Fr.below (h : Fr B g C base w w') {b : Nat} (h1 : b ≤ B) (h2 : b ≤ g) (h3 : b ≤ C) (h4 : b ≤ base) (h5 : b ≤ w.heap.size) : Below b w w' := ⟨h.os, h.tape, h.output, h.size, fun i hi => h.block i (by omega) (by omega) (by omega) (by omega) (.inl (by omega))⟩
theorem Box.fr (h : Box w k t cs) (hd : Fr B g C base w w') (h1 : k ≠ B) (h2 : k ≠ g) (h3 : k ≠ C) (ht : t ≠ 44) : Box w' k t cs := (hd.block k h.inHeap h1 h2 h3 (.inr ⟨cs, t, _, h, ht⟩)).trans h
/-- The two memories hold the same. -/
structure Pm (wr : World) (B g C N W A D : Nat) (l : List UInt8) (base : Nat) : Prop where
  rm : Rm wr B g N A W l
  dm : ∃ L v, Dm wr C N D W l base L v
  e1 : 0 < W → A = D
  e2 : W = 0 → A = 0
  n1 : C ≠ B
  n2 : C ≠ g
theorem Pm.over (h : Pm wr B g C N W A D l base) (k : Below wr.heap.size wr w') : Pm w' B g C N W A D l base := by
  obtain ⟨L, v, hd⟩ := h.dm
  exact ⟨h.rm.over k, ⟨L, v, hd.over k⟩, h.e1, h.e2, h.n1, h.n2⟩
theorem Pm.more (h : Pm wr B g C N W A D l base) (o : Obj) : Pm (wr.alloc o) B g C N W A D l base := h.over ((Below.refl _ _).alloc (Nat.le_refl _) o)
theorem Dm.touch (h : Dm wr C N D W l base L v) (k : Touch (Own2 B g) wr w') {N' A' W' : Nat} {l' : List UInt8} (hr : Rm wr B g N' A' W' l') (n1 : C ≠ B) (n2 : C ≠ g) : Dm w' C N D W l base L v :=
  ⟨h.box.touch k (by rintro (h | h) <;> contradiction), h.own.kept (row := none) ⟨rfl, rfl, rfl, Nat.le_refl _, fun _ _ _ => rfl⟩ (by
      by_cases hv : v.ownBlock = none
      · exact .inl hv
      · exact .inr hv) |> fun hown => by
    refine ⟨hown.1, hown.2.imp id ?_⟩
    rintro ⟨gr, cap, cur, e, hg, hh, r⟩
    refine ⟨gr, cap, cur, e, hg, (k.block gr (Array.getElem?_eq_some_iff.1 hh).1 ?_).trans hh, r⟩
    rintro (h' | h')
    · exact row_ne hh hr.box (by decide) h'
    · exact row_ne hh hr.mem (by decide) h', h.md, h.len, h.top, h.at1, Nat.le_trans h.hb k.size⟩
theorem Rm.dt (h : Rm wr B g N A W l) (k : Dt C base wr w') (n1 : C ≠ B) (n2 : C ≠ g) : Rm w' B g N A W l :=
  ⟨h.box.dt k (fun e => n1 e.symm) (by decide), h.mem.dt k (fun e => n2 e.symm) (by decide), h.len, h.big, h.top, h.at1⟩
/-- Behind the program's call, ahead of the document's. -/
structure Mid (wr w1 : World) (B g C N W D : Nat) (l : List UInt8) (base : Nat) (W1 A1 : Nat) (l1 : List UInt8) : Prop where
  rm : Rm w1 B g N A1 W1 l1
  dm : ∃ L v, Dm w1 C N D W l base L v
  t : Touch (Own2 B g) wr w1
  n1 : C ≠ B
  n2 : C ≠ g
theorem Pm.mid (h : Pm wr B g C N W A D l base) {W1 A1 : Nat} {l1 : List UInt8} (hr : Rm w1 B g N A1 W1 l1) (ht : Touch (Own2 B g) wr w1) : Mid wr w1 B g C N W D l base W1 A1 l1 := by
  obtain ⟨L, v, hd⟩ := h.dm
  exact ⟨hr, ⟨L, v, hd.touch ht h.rm h.n1 h.n2⟩, ht, h.n1, h.n2⟩
theorem Mid.done {W1 A1 D1 : Nat} {l1 : List UInt8} (h : Mid wr w1 B g C N W D l base W1 A1 l1) (hd : Dw w1 w2 C N D1 W1 l1 base) (e1 : 0 < W1 → A1 = D1) (e2 : W1 = 0 → A1 = 0) : Pm w2 B g C N W1 A1 D1 l1 base ∧ Fr B g C base wr w2 :=
  ⟨⟨h.rm.dt hd.t h.n1 h.n2, hd.m, e1, e2, h.n1, h.n2⟩, (Fr.ofTouch h.t).trans (Fr.ofDt hd.t)⟩
theorem gone_eq (e1 : 0 < W → A = D) (b : Bool) (a n : Nat) : gone (b && endB A a n) W = gone (b && endB D a n) W := by
  rcases Nat.eq_zero_or_pos W with rfl | h
  · unfold gone
    split <;> split <;> rfl
  · rw [e1 h]
theorem gone_e1 (e1 : 0 < W → A = D) (c : Bool) : 0 < gone c W → gone c A = D := by
  unfold gone
  cases c
  · exact e1
  · intro h; exact absurd h (by simp)
theorem gone_e2 (e2 : W = 0 → A = 0) (c : Bool) : gone c W = 0 → gone c A = 0 := by
  unfold gone
  cases c
  · exact e2
  · intro _; rfl
theorem mread_bad (h : Rm w B g N A W l) (a : Nat) (z : Int) (hb : ¬ ((z = 1 ∨ z = 2 ∨ z = 4 ∨ z = 8) ∧ (a : Int) + z ≤ N)) : Calls Try.prog 26 #[.pointer (some ⟨B, 0, none⟩), .int .u64 a, .int .i64 z] w fun e w' => e = .returned (.tuple #[.int .u64 0, .bool false]) ∧ w = w' := by
  by_cases hz : z = 1 ∨ z = 2 ∨ z = 4 ∨ z = 8
  · obtain ⟨n, rfl⟩ : ∃ n : Nat, z = n := ⟨z.toNat, by omega⟩
    have HM := Lib.hid h
    have HT := Lib.hid (fun wx (hx : Rm wx B g N A W l) => there_any hx a n)
    rw [decide_eq_false (show ¬ a + n ≤ N by omega)] at HT
    have hn : n = 1 ∨ n = 2 ∨ n = 4 ∨ n = 8 := by omega
    clear h hb hz
    obtain rfl | rfl | rfl | rfl := hn
    all_goals
      go_enter Try.func26, Try.ntmps26
      go_wp2_with (first | (go_at_call 47; refine (width_any _ _).mono ?_; rintro e w' ⟨rfl, rfl⟩) | (go_at_call 37; refine (HT.out _ HM.out).mono ?_; rintro e w' ⟨rfl, rfl⟩))
      go_ret2
      exact ⟨rfl, rfl⟩
  · have HW := Lib.hid (fun wx => width_any z wx)
    rw [decide_eq_false hz] at HW
    clear h hb hz
    go_enter Try.func26, Try.ntmps26
    go_wp2_with (go_at_call 47; refine (HW.out _).mono ?_; rintro e w' ⟨rfl, rfl⟩)
    go_ret2
    exact ⟨rfl, rfl⟩
/-- What Read tells. -/
def rdB (N a : Nat) (z : Int) : Bool := decide ((z = 1 ∨ z = 2 ∨ z = 4 ∨ z = 8) ∧ (a : Int) + z ≤ N)
def rdV (l : List UInt8) (N a : Nat) (z : Int) : Nat := if rdB N a z = true then num l a z.toNat else 0
theorem mread_any (h : Rm w B g N A W l) (a : Nat) (z : Int) : Calls Try.prog 26 #[.pointer (some ⟨B, 0, none⟩), .int .u64 a, .int .i64 z] w fun e w' => e = .returned (.tuple #[.int .u64 (rdV l N a z : Nat), .bool (rdB N a z)]) ∧ ∃ k, w' = w.drewN k := by
  unfold rdV
  by_cases hb : (z = 1 ∨ z = 2 ∨ z = 4 ∨ z = 8) ∧ (a : Int) + z ≤ N
  · have e : rdB N a z = true := decide_eq_true hb
    obtain ⟨n, rfl⟩ : ∃ n : Nat, z = n := ⟨z.toNat, by omega⟩
    rw [e, if_pos rfl, Int.toNat_natCast]
    exact read_exact h a n (by omega) (by omega)
  · have e : rdB N a z = false := decide_eq_false hb
    rw [e, if_neg (by decide)]
    refine (mread_bad h a z hb).mono ?_
    rintro e w' ⟨rfl, rfl⟩
    exact ⟨rfl, 0, rfl⟩
theorem dread_any (h : Dm w C N D W l base L v) (a : Nat) (z : Int) : Calls Try.prog 31 #[.pointer (some ⟨C, 0, none⟩), .int .u64 a, .int .i64 z] w fun e w' => e = .returned (.tuple #[.int .u64 (rdV l N a z : Nat), .bool (rdB N a z)]) ∧ w = w' := by
  unfold rdV
  by_cases hb : (z = 1 ∨ z = 2 ∨ z = 4 ∨ z = 8) ∧ (a : Int) + z ≤ N
  · have e : rdB N a z = true := decide_eq_true hb
    obtain ⟨n, rfl⟩ : ∃ n : Nat, z = n := ⟨z.toNat, by omega⟩
    rw [e, if_pos rfl, Int.toNat_natCast]
    exact dread_ok h a n (by omega) (by omega)
  · have e : rdB N a z = false := decide_eq_false hb
    rw [e, if_neg (by decide)]
    exact dread_bad h a z hb
def byS (l : List UInt8) (N a n : Nat) : ByteArray := if a + n ≤ N then str ((l.drop a).take n) else ⟨#[]⟩
def byE (N a n : Nat) : Int := if a + n ≤ N then 0 else 6
theorem mbytes_any (h : Rm w B g N A W l) (a n : Nat) : Calls Try.prog 19 #[.pointer (some ⟨B, 0, none⟩), .int .u64 a, .int .u64 n] w fun e w' => e = .returned (.tuple #[.string (byS l N a n), .int .i64 (byE N a n)]) ∧ w = w' := by
  unfold byS byE
  by_cases hb : a + n ≤ N
  · rw [if_pos hb, if_pos hb]
    exact bytes_good h a n hb
  · rw [if_neg hb, if_neg hb]
    exact bytes_bad h a n hb
theorem dbytes_any (h : Dm w C N D W l base L v) (a n : Nat) : Calls Try.prog 34 #[.pointer (some ⟨C, 0, none⟩), .int .u64 a, .int .u64 n] w fun e w' => e = .returned (.tuple #[.string (byS l N a n), .int .i64 (byE N a n)]) ∧ Below w.heap.size w w' := by
  unfold byS byE
  by_cases hb : a + n ≤ N
  · rw [if_pos hb, if_pos hb]
    exact dbytes_ok h a n hb
  · rw [if_neg hb, if_neg hb]
    refine (dbytes_bad h a n hb).mono ?_
    rintro e w' ⟨rfl, rfl⟩
    exact ⟨rfl, Below.refl _ _⟩
end
end Go.Proofs.Ytjdedgfbonlmkaa
