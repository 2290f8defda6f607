/- A queue: what it is in memory; what New, Send, Receive, Room and Waiting answer. -/
import Derived.Test.YtnignbpgcopehaaRows
import Derived.Test.YtnignbpgcopehaaProg
import Derived.WalkKit
import Derived.WalkSpells
import Derived.WalkLawsBesides
import Derived.Below
import Derived.Lib.Hide
import Derived.Outline
import Derived.Laws.OwnMore
import Derived.Deep.Draws
import Derived.Laws.Rows
import Derived.Deep.RegionWith
import Derived.Deep.QuietTactic
import Derived.BigQuiet
import Derived.RegionTactic
import Derived.BigRegion
import Derived.Deep.MidRow
import Derived.WalkSmall
import Derived.Laws.BytesArg
import Derived.Laws.AppendOwn
import Derived.OwnWalk
set_option linter.unusedVariables false
set_option linter.unusedSimpArgs false
namespace Go.Proofs.Ytnignbpgcopehaa
open Go.RowKit

theorem ret_eq {k : IntKind} {a b : Int} (h : a = b) : Ending.returned (.int k a) = .returned (.int k b) := by rw [h]
theorem val_eq {k : IntKind} {a b : Int} (h : a = b) : Value.int k a = .int k b := by rw [h]
/-- Block number b holds just these cells, none of them frozen. -/
def Box (w : World) (b : Nat) (t : TypeId) (cs : Array Value) : Prop := w.heap[b]? = some (.cells cs t (0, 0))

namespace Box
variable {w w' : World} {b : Nat} {t : TypeId} {cs : Array Value}
theorem inHeap (h : Box w b t cs) : b < w.heap.size := (Array.getElem?_eq_some_iff.1 h).1
theorem read (h : Box w b t cs) (i : Nat) : w.cell? ⟨b, i, none⟩ = cs[i]? := cell_of_row w b i cs t (0, 0) h
theorem warm (h : Box w b t cs) (i : Nat) : w.frozen? ⟨b, i, none⟩ = false := by
  have h' : w.heap[b]? = some (.cells cs t (0, 0)) := h
  simp [World.frozen?, h']
theorem made (w : World) (t : TypeId) (cs : Array Value) : Box (w.alloc (.cells cs t)) w.heap.size t cs := heap_alloc_new w _
theorem drawn (h : Box w b t cs) (n : Nat) : Box (w.drewN n) b t cs := h
theorem drawn1 (h : Box w b t cs) : Box w.drew b t cs := h
theorem more (h : Box w b t cs) (o : Obj) : Box (w.alloc o) b t cs := (Below.heap_alloc w o b h.inHeap).trans h
theorem put (h : Box w b t cs) (i : Nat) (u : Value) : Box (w.setCell ⟨b, i, none⟩ u) b t (cs.setIfInBounds i u) := by
  have h' : w.heap[b]? = some (.cells cs t (0, 0)) := h
  show (w.setCell ⟨b, i, none⟩ u).heap[b]? = _
  simp [World.setCell, Array.getElem?_modify, h']
theorem putFar (h : Box w b t cs) {p : Addr} (hp : b ≠ p.block) (u : Value) : Box (w.setCell p u) b t cs := (Below.heap_setCell w p u b hp).trans h
theorem row (h : Box w b t cs) (cs' : Array Value) : Box (w.setRow b cs') b t cs' := setRow_heap w b cs cs' t (0, 0) h
theorem rowFar (h : Box w b t cs) {g : Nat} (hg : b ≠ g) (cs' : Array Value) : Box (w.setRow g cs') b t cs := (setRow_other w g b cs' hg).trans h
theorem over {B : Nat} (h : Box w b t cs) (hb : Below B w w') (hg : b < B) : Box w' b t cs := (hb.block b hg).trans h
end Box


/-- Of the blocks that there were, block b alone may have turned. -/
structure Only (b : Nat) (w w' : World) : Prop where
  os : w'.os = w.os
  tape : w'.tape = w.tape
  output : w'.output = w.output
  size : w.heap.size ≤ w'.heap.size
  block : ∀ k, k < w.heap.size → k ≠ b → w'.heap[k]? = w.heap[k]?

namespace Only
variable {b : Nat} {w w' w'' : World}
theorem refl (b : Nat) (w : World) : Only b w w := ⟨rfl, rfl, rfl, Nat.le_refl _, fun _ _ _ => rfl⟩
theorem trans (h : Only b w w') (k : Only b w' w'') : Only b w w'' :=
  ⟨k.os.trans h.os, k.tape.trans h.tape, k.output.trans h.output, Nat.le_trans h.size k.size, fun i hi hn => (k.block i (Nat.lt_of_lt_of_le hi h.size) hn).trans (h.block i hi hn)⟩
theorem drawn (h : Only b w w') (n : Nat) : Only b w (w'.drewN n) := ⟨h.os, h.tape, h.output, h.size, h.block⟩
theorem drawn1 (h : Only b w w') : Only b w w'.drew := ⟨h.os, h.tape, h.output, h.size, h.block⟩
theorem more (h : Only b w w') (o : Obj) : Only b w (w'.alloc o) :=
  ⟨h.os, h.tape, h.output, Nat.le_trans h.size (by simp), fun i hi hn => (Below.heap_alloc w' o i (Nat.lt_of_lt_of_le hi h.size)).trans (h.block i hi hn)⟩
theorem put (h : Only b w w') {p : Addr} (hp : p.block = b ∨ w.heap.size ≤ p.block) (u : Value) : Only b w (w'.setCell p u) :=
  ⟨h.os, h.tape, h.output, by simpa [World.setCell] using h.size, fun i hi hn => (Below.heap_setCell w' p u i (by
    intro e
    rcases hp with hp | hp
    · exact hn (e.trans hp)
    · omega)).trans (h.block i hi hn)⟩
theorem below (h : Only b w w') {c : Nat} (hc : c ≤ b) (hs : c ≤ w.heap.size) : Below c w w' :=
  ⟨h.os, h.tape, h.output, h.size, fun i hi => h.block i (by omega) (by omega)⟩
theorem ofBelow (h : Below w.heap.size w w') : Only b w w' := ⟨h.os, h.tape, h.output, h.size, fun i hi _ => h.block i hi⟩
end Only
theorem Box.only {b g : Nat} {w w' : World} {t : TypeId} {cs : Array Value} (h : Box w g t cs) (k : Only b w w') (hg : g ≠ b) : Box w' g t cs := (k.block g h.inHeap hg).trans h

theorem box_eq {w : World} {b : Nat} {t : TypeId} {cs cs' : Array Value} (h : Box w b t cs) (e : cs = cs') : Box w b t cs' := e ▸ h
/-- A struct that is built out of its parts: its cells by name. -/
theorem wpList_build_to {P : Program} {ops : Array Oper} {rest : List Oper} {o : Oper} {a : Act} {w : World} {Q : Exit → Act → World → Prop} (hg : o.guard = none) (t : TypeId) (parts : Array (Nat × Operand)) (ho : o.op = .build t parts)
    (cells : Array Value) (hc : P.built t (parts.map fun (i, x) => (i, a.eval x)).toList = some cells) (h : wpList P ops Q rest (a.put o.dst (.agg cells)) w) : wpList P ops Q (o :: rest) a w :=
  wpList_build hg t parts ho (by rw [hc]; rfl) (by rw [hc]; exact h)

/-- A queue's cells: depth, most, the ring, the first one's place, how many there are. -/
def qc (d m : Nat) (F : Nat → ByteArray) (f n : Int) : Array Value :=
  #[.int .u8 d, .int .u8 m, .string (F 0), .string (F 1), .string (F 2), .string (F 3), .string (F 4), .string (F 5), .string (F 6), .string (F 7), .string (F 8), .string (F 9), .string (F 10), .string (F 11), .string (F 12), .string (F 13), .string (F 14), .string (F 15), .int .i64 f, .int .i64 n]
theorem qc_at (d m : Nat) (F : Nat → ByteArray) (f n : Int) : ∀ k : Nat, k < 16 → (qc d m F f n)[2 + k]? = some (.string (F k))
  | 0, _ => rfl
  | 1, _ => rfl
  | 2, _ => rfl
  | 3, _ => rfl
  | 4, _ => rfl
  | 5, _ => rfl
  | 6, _ => rfl
  | 7, _ => rfl
  | 8, _ => rfl
  | 9, _ => rfl
  | 10, _ => rfl
  | 11, _ => rfl
  | 12, _ => rfl
  | 13, _ => rfl
  | 14, _ => rfl
  | 15, _ => rfl
  | k + 16, h => absurd h (by omega)
def turn (F : Nat → ByteArray) (k : Nat) (x : ByteArray) (i : Nat) : ByteArray := if i = k then x else F i
theorem qc_turn (d m : Nat) (F : Nat → ByteArray) (f n : Int) (x : ByteArray) : ∀ k : Nat, k < 16 → (qc d m F f n).setIfInBounds (2 + k) (.string x) = qc d m (turn F k x) f n
  | 0, _ => by kernel_rfl
  | 1, _ => by kernel_rfl
  | 2, _ => by kernel_rfl
  | 3, _ => by kernel_rfl
  | 4, _ => by kernel_rfl
  | 5, _ => by kernel_rfl
  | 6, _ => by kernel_rfl
  | 7, _ => by kernel_rfl
  | 8, _ => by kernel_rfl
  | 9, _ => by kernel_rfl
  | 10, _ => by kernel_rfl
  | 11, _ => by kernel_rfl
  | 12, _ => by kernel_rfl
  | 13, _ => by kernel_rfl
  | 14, _ => by kernel_rfl
  | 15, _ => by kernel_rfl
  | k + 16, h => absurd h (by omega)
theorem qc_f (d m : Nat) (F : Nat → ByteArray) (f n v : Int) : (qc d m F f n).setIfInBounds 18 (.int .i64 v) = qc d m F v n := by kernel_rfl
theorem qc_n (d m : Nat) (F : Nat → ByteArray) (f n v : Int) : (qc d m F f n).setIfInBounds 19 (.int .i64 v) = qc d m F f v := by kernel_rfl
/-- A queue in memory. -/
structure Qu (w : World) (B : Nat) (d m : Nat) (F : Nat → ByteArray) (f n : Nat) : Prop where
  box : Box w B 54 (qc d m F f n)
  hf : f < 16
  hn : n ≤ d
  h1 : 1 ≤ d
  hd : d ≤ 16
  hm : m ≤ 64
theorem Qu.only {w w' : World} {B d m : Nat} {F : Nat → ByteArray} {f n b : Nat} (h : Qu w B d m F f n) (k : Only b w w') (hb : B ≠ b) : Qu w' B d m F f n := ⟨h.box.only k hb, h.hf, h.hn, h.h1, h.hd, h.hm⟩
theorem Qu.over {w w' : World} {B d m : Nat} {F : Nat → ByteArray} {f n b : Nat} (h : Qu w B d m F f n) (k : Below b w w') (hb : B < b) : Qu w' B d m F f n := ⟨h.box.over k hb, h.hf, h.hn, h.h1, h.hd, h.hm⟩
theorem Qu.drawn {w : World} {B d m : Nat} {F : Nat → ByteArray} {f n : Nat} (h : Qu w B d m F f n) (k : Nat) : Qu (w.drewN k) B d m F f n := ⟨h.box.drawn k, h.hf, h.hn, h.h1, h.hd, h.hm⟩
theorem Qu.drawn1 {w : World} {B d m : Nat} {F : Nat → ByteArray} {f n : Nat} (h : Qu w B d m F f n) : Qu w.drew B d m F f n := ⟨h.box.drawn1, h.hf, h.hn, h.h1, h.hd, h.hm⟩
theorem Qu.more {w : World} {B d m : Nat} {F : Nat → ByteArray} {f n : Nat} (h : Qu w B d m F f n) (o : Obj) : Qu (w.alloc o) B d m F f n := ⟨h.box.more o, h.hf, h.hn, h.h1, h.hd, h.hm⟩
def noS (_ : Nat) : ByteArray := ⟨#[]⟩
set_option maxHeartbeats 1000000 in
theorem new_ok (d m : Nat) (h0 : 1 ≤ d) (h1 : d ≤ 16) (h2 : 1 ≤ m) (h3 : m ≤ 64) (w : World) :
    Calls Try.prog 7 #[.int .u8 d, .int .u8 m] w fun e w' => e = .returned (.tuple #[.pointer (some ⟨w.heap.size, 0, none⟩), .int .i64 0]) ∧ Qu w' w.heap.size d m noS 0 0 ∧ Below w.heap.size w w' ∧ w.heap.size < w'.heap.size := by
  have HP : Hid (Qu (w.alloc (.cells (qc d m noS 0 0) 54)) w.heap.size d m noS 0 0 ∧ Below w.heap.size w (w.alloc (.cells (qc d m noS 0 0) 54)) ∧ w.heap.size < (w.alloc (.cells (qc d m noS 0 0) 54)).heap.size) :=
    ⟨⟨Box.made _ _ _, by omega, by omega, h0, h1, h3⟩, (Below.refl _ _).alloc (Nat.le_refl _) _, by simp⟩
  go_enter Try.func7, Try.ntmps7
  go_wp2_with (refine wpList_build_to rfl 54 _ rfl (qc d m noS 0 0) (by kernel_rfl) ?_)
  go_ret2
  exact ⟨rfl, HP.out⟩
theorem new_bad (d m : Nat) (h : ¬ (1 ≤ d ∧ d ≤ 16 ∧ 1 ≤ m ∧ m ≤ 64)) (w : World) :
    Calls Try.prog 7 #[.int .u8 d, .int .u8 m] w fun e w' => e = .returned (.tuple #[.pointer none, .int .i64 2]) ∧ w = w' := by
  by_cases q0 : 1 ≤ d
  · by_cases q1 : d ≤ 16
    · by_cases q2 : 1 ≤ m
      · have q3 : 64 < m := by omega
        clear h
        go_enter Try.func7, Try.ntmps7
        go_wp2
        go_ret2
        exact ⟨rfl, rfl⟩
      · clear h
        go_enter Try.func7, Try.ntmps7
        go_wp2
        go_ret2
        exact ⟨rfl, rfl⟩
    · clear h
      go_enter Try.func7, Try.ntmps7
      go_wp2
      go_ret2
      exact ⟨rfl, rfl⟩
  · clear h
    go_enter Try.func7, Try.ntmps7
    go_wp2
    go_ret2
    exact ⟨rfl, rfl⟩
section
variable {w : World} {B d m : Nat} {F : Nat → ByteArray} {f n : Nat}
theorem made_any (h : Qu w B d m F f n) : Calls Try.prog 25 #[.pointer (some ⟨B, 0, none⟩)] w fun e w' => e = .returned (.bool true) ∧ w = w' := by
  have c0 : w.cell? ⟨B, 0, none⟩ = some (.int .u8 d) := h.box.read 0
  have h1 := h.h1
  have hd1 : decide (0 < d) = true := decide_eq_true h1
  go_enter Try.func25, Try.ntmps25
  go_wp2
  go_ret
  exact ⟨rfl, rfl⟩
theorem place_any (h : Qu w B d m F f n) (i : Nat) (hi : i ≤ 16) : Calls Try.prog 26 #[.pointer (some ⟨B, 0, none⟩), .int .i64 i] w fun e w' => e = .returned (.int .i64 ((f + i) % 16 : Nat)) ∧ w = w' := by
  have c0 : w.cell? ⟨B, 18, none⟩ = some (.int .i64 f) := h.box.read 18
  have hf := h.hf
  go_enter Try.func26, Try.ntmps26
  go_wp2
  go_ret
  exact ⟨ret_eq (by omega), rfl⟩
theorem room_any (h : Qu w B d m F f n) : Calls Try.prog 20 #[.pointer (some ⟨B, 0, none⟩)] w fun e w' => e = .returned (.int .i64 (d - n : Int)) ∧ ∃ k, w' = w.drewN k := by
  have c0 : w.cell? ⟨B, 0, none⟩ = some (.int .u8 d) := h.box.read 0
  have c1 : w.cell? ⟨B, 19, none⟩ = some (.int .i64 n) := h.box.read 19
  have hn := h.hn
  have hd := h.hd
  go_enter Try.func20, Try.ntmps20
  go_wp2_with (go_at_call 25; refine (made_any h).mono ?_; rintro e w' ⟨rfl, rfl⟩)
  go_quiet (fail)
  go_wp2
  go_ret
  exact ⟨rfl, nq, rfl⟩
theorem waiting_any (h : Qu w B d m F f n) : Calls Try.prog 21 #[.pointer (some ⟨B, 0, none⟩)] w fun e w' => e = .returned (.int .i64 n) ∧ w = w' := by
  have c1 : w.cell? ⟨B, 19, none⟩ = some (.int .i64 n) := h.box.read 19
  go_enter Try.func21, Try.ntmps21
  go_wp2_with (go_at_call 25; refine (made_any h).mono ?_; rintro e w' ⟨rfl, rfl⟩)
  go_ret
  exact ⟨rfl, rfl⟩
theorem send_long (h : Qu w B d m F f n) (s : ByteArray) (hs : m < s.size) : Calls Try.prog 15 #[.pointer (some ⟨B, 0, none⟩), .string s] w fun e w' => e = .returned (.int .u8 3) ∧ w = w' := by
  have c1 : w.cell? ⟨B, 1, none⟩ = some (.int .u8 m) := h.box.read 1
  have hm := h.hm
  go_enter Try.func15, Try.ntmps15
  go_wp2_with (go_at_call 25; refine (made_any h).mono ?_; rintro e w' ⟨rfl, rfl⟩)
  go_ret
  exact ⟨rfl, rfl⟩
theorem send_full (h : Qu w B d m F f n) (s : ByteArray) (hs : s.size ≤ m) (hf : n = d) : Calls Try.prog 15 #[.pointer (some ⟨B, 0, none⟩), .string s] w fun e w' => e = .returned (.int .u8 1) ∧ ∃ k, w' = w.drewN k := by
  have c1 : w.cell? ⟨B, 1, none⟩ = some (.int .u8 m) := h.box.read 1
  have hm := h.hm
  have hr := room_any h
  have e : ((d : Int) - n) = 0 := by omega
  rw [e] at hr
  have HR := Lib.hid hr
  clear hr e
  go_enter Try.func15, Try.ntmps15
  go_wp2_with (first | (go_at_call 25; refine (made_any h).mono ?_; rintro e w' ⟨rfl, rfl⟩) | (go_at_call 20; refine HR.out.mono ?_; rintro e w' ⟨rfl, k, rfl⟩))
  go_ret
  exact ⟨rfl, k, rfl⟩
set_option maxHeartbeats 1000000 in
theorem send_ok (h : Qu w B d m F f n) (s : ByteArray) (hs : s.size ≤ m) (hf : n < d) : Calls Try.prog 15 #[.pointer (some ⟨B, 0, none⟩), .string s] w fun e w' => e = .returned (.int .u8 0) ∧ Qu w' B d m (turn F ((f + n) % 16) s) f (n + 1) ∧ Only B w w' := by
  have c1 : w.cell? ⟨B, 1, none⟩ = some (.int .u8 m) := h.box.read 1
  have hm := h.hm
  have hn := h.hn
  have hd := h.hd
  have hr := Lib.hid (room_any h)
  go_enter Try.func15, Try.ntmps15
  go_wp2_with (first | (go_at_call 25; refine (made_any h).mono ?_; rintro e w' ⟨rfl, rfl⟩) | (go_at_call 20; refine hr.out.mono ?_; rintro e w' ⟨rfl, k, rfl⟩))
  have h' := h.drawn k
  have o' : Only B w (w.drewN k) := (Only.refl B w).drawn k
  generalize w.drewN k = w1 at h' o' ⊢
  have c19 : w1.cell? ⟨B, 19, none⟩ = some (.int .i64 n) := h'.box.read 19
  have hp : (f + n) % 16 < 16 := Nat.mod_lt _ (by decide)
  have HPL := Lib.hid (fun wq (hq : Qu wq B d m F f n) => place_any hq n (by omega))
  generalize hP : (f + n) % 16 = P at hp HPL ⊢
  have cP : w1.cell? ⟨B, 2 + P, none⟩ = some (.string (F P)) := (h'.box.read (2 + P)).trans (qc_at d m F f n P hp)
  have fP := h'.box.warm (2 + P)
  clear c1 hr
  have hne : f + n = f + n := rfl
  go_region_with (go_at_call 26; refine (HPL.out _ h'.drawn1).mono ?_; rintro e w' ⟨rfl, rfl⟩)
  have h2 : Qu ((w1.setCell ⟨B, 2 + P, none⟩ (.string s)).drew) B d m (turn F P s) f n := ⟨by rw [← qc_turn d m F f n s P hp]; exact (h'.box.put (2 + P) _).drawn1, h'.hf, h'.hn, h'.h1, h'.hd, h'.hm⟩
  have o2 : Only B w ((w1.setCell ⟨B, 2 + P, none⟩ (.string s)).drew) := (o'.put (.inl rfl) _).drawn1
  clear cP fP c19 HPL
  generalize (w1.setCell ⟨B, 2 + P, none⟩ (.string s)).drew = w2 at h2 o2 ⊢
  have c19 : w2.cell? ⟨B, 19, none⟩ = some (.int .i64 n) := h2.box.read 19
  have f19 := h2.box.warm 19
  have HP := Lib.hid hP
  clear hP
  go_wp2
  go_ret
  have hP := HP.out
  subst hP
  exact ⟨rfl, ⟨box_eq (h2.box.put 19 _) (by rw [qc_n]; rfl), h2.hf, by omega, h2.h1, h2.hd, h2.hm⟩, o2.put (.inl rfl) _⟩
theorem receive_none (h : Qu w B d m F f 0) : Calls Try.prog 11 #[.pointer (some ⟨B, 0, none⟩)] w fun e w' => e = .returned (.tuple #[.string ⟨#[]⟩, .int .u8 4]) ∧ w = w' := by
  have c1 : w.cell? ⟨B, 19, none⟩ = some (.int .i64 0) := h.box.read 19
  go_enter Try.func11, Try.ntmps11
  go_wp2_with (go_at_call 25; refine (made_any h).mono ?_; rintro e w' ⟨rfl, rfl⟩)
  exact bodyPost_ret (v := .tuple #[.string ⟨#[]⟩, .int .u8 4]) (by simp [results, Try.results11, go_sem]) rfl ⟨rfl, rfl⟩
set_option maxHeartbeats 1000000 in
theorem receive_ok (h : Qu w B d m F f n) (hn0 : 0 < n) : Calls Try.prog 11 #[.pointer (some ⟨B, 0, none⟩)] w fun e w' => e = .returned (.tuple #[.string (F f), .int .u8 0]) ∧ Qu w' B d m (turn F f ⟨#[]⟩) ((f + 1) % 16) (n - 1) ∧ Only B w w' := by
  have c19 : w.cell? ⟨B, 19, none⟩ = some (.int .i64 n) := h.box.read 19
  have c18 : w.cell? ⟨B, 18, none⟩ = some (.int .i64 f) := h.box.read 18
  have hf := h.hf
  have hn := h.hn
  have hd := h.hd
  have cP : w.cell? ⟨B, 2 + f, none⟩ = some (.string (F f)) := (h.box.read (2 + f)).trans (qc_at d m F f n f hf)
  have hn2 : ((n : Int) == 0) = false := beq_eq_false_iff_ne.2 (by omega)
  go_enter Try.func11, Try.ntmps11
  go_wp2_with (go_at_call 25; refine (made_any h).mono ?_; rintro e w' ⟨rfl, rfl⟩)
  go_quiet (fail)
  go_wp2
  have h' := h.drawn nq
  have o' : Only B w (w.drewN nq) := (Only.refl B w).drawn nq
  clear c19 c18 cP
  generalize w.drewN nq = w1 at h' o' ⊢
  have c18 : w1.cell? ⟨B, 18, none⟩ = some (.int .i64 f) := h'.box.read 18
  have cP : w1.cell? ⟨B, 2 + f, none⟩ = some (.string (F f)) := (h'.box.read (2 + f)).trans (qc_at d m F f n f hf)
  have fP := h'.box.warm (2 + f)
  go_region
  have h2 : Qu ((w1.setCell ⟨B, 2 + f, none⟩ (.string ⟨#[]⟩)).drew) B d m (turn F f ⟨#[]⟩) f n := ⟨by rw [← qc_turn d m F f n ⟨#[]⟩ f hf]; exact (h'.box.put (2 + f) _).drawn1, h'.hf, h'.hn, h'.h1, h'.hd, h'.hm⟩
  have o2 : Only B w ((w1.setCell ⟨B, 2 + f, none⟩ (.string ⟨#[]⟩)).drew) := (o'.put (.inl rfl) _).drawn1
  clear cP fP c18
  generalize (w1.setCell ⟨B, 2 + f, none⟩ (.string ⟨#[]⟩)).drew = w2 at h2 o2 ⊢
  have c19 : w2.cell? ⟨B, 19, none⟩ = some (.int .i64 n) := h2.box.read 19
  have f19 := h2.box.warm 19
  have f18 := h2.box.warm 18
  have c18 : w2.cell? ⟨B, 18, none⟩ = some (.int .i64 f) := h2.box.read 18
  have hpl := place_any h2 1 (by omega)
  have hf2 : (f + 1) % 16 < 16 := Nat.mod_lt _ (by decide)
  generalize hE : (f + 1) % 16 = f2 at hpl hf2
  have HE := Lib.hid hE
  clear hE
  have HPL := Lib.hid hpl
  clear hpl
  have H2 := Lib.hid (And.intro h2 o2)
  clear h2 o2
  go_wp2_with (go_at_call 26; refine HPL.out.mono ?_; rintro e w' ⟨rfl, rfl⟩)
  refine bodyPost_ret (v := .tuple #[.string (F f), .int .u8 0]) (by simp [results, Try.results11, go_sem]) rfl ?_
  have hE := HE.out
  subst hE
  refine ⟨rfl, ⟨box_eq ((H2.out.1.box.put 18 _).put 19 _) ?_, hf2, by omega, H2.out.1.h1, H2.out.1.hd, H2.out.1.hm⟩, (H2.out.2.put (.inl rfl) _).put (.inl rfl) _⟩
  rw [qc_f, qc_n, show ((n - 1 : Nat) : Int) = (n : Int) - 1 by omega]
end
end Go.Proofs.Ytnignbpgcopehaa
