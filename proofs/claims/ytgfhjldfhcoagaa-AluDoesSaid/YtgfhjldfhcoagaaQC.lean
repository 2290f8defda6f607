/- Products bit by bit. -/
import Derived.Test.YtgfhjldfhcoagaaQB
import Derived.Laws.OwnMore
import Derived.Deep.Draws
import Derived.Laws.Rows
set_option linter.unusedVariables false
set_option linter.unusedSimpArgs false
namespace Go.Proofs.Ytgfhjldfhcoagaa
open Go.RowKit
/-- Block number b holds just these cells, none of them frozen. -/
def Box (w : World) (b : Nat) (t : TypeId) (cs : Array Value) : Prop := w.heap[b]? = some (.cells cs t (0, 0))

namespace Box
variable {w w' : World} {b : Nat} {t : TypeId} {cs : Array Value}
theorem inHeap (h : Box w b t cs) : b < w.heap.size := (Array.getElem?_eq_some_iff.1 h).1
theorem read (h : Box w b t cs) (i : Nat) : w.cell? ⟨b, i, none⟩ = cs[i]? := cell_of_row w b i cs t (0, 0) h
theorem warm (h : Box w b t cs) (i : Nat) : w.frozen? ⟨b, i, none⟩ = false := by
  have h' : w.heap[b]? = some (.cells cs t (0, 0)) := h
  simp [World.frozen?, h']
theorem made (w : World) (t : TypeId) (cs : Array Value) : Box (w.alloc (.cells cs t)) w.heap.size t cs := heap_alloc_new w _
theorem drawn (h : Box w b t cs) (n : Nat) : Box (w.drewN n) b t cs := h
theorem drawn1 (h : Box w b t cs) : Box w.drew b t cs := h
theorem more (h : Box w b t cs) (o : Obj) : Box (w.alloc o) b t cs := (Below.heap_alloc w o b h.inHeap).trans h
theorem put (h : Box w b t cs) (i : Nat) (u : Value) : Box (w.setCell ⟨b, i, none⟩ u) b t (cs.setIfInBounds i u) := by
  have h' : w.heap[b]? = some (.cells cs t (0, 0)) := h
  show (w.setCell ⟨b, i, none⟩ u).heap[b]? = _
  simp [World.setCell, Array.getElem?_modify, h']
theorem putFar (h : Box w b t cs) {p : Addr} (hp : b ≠ p.block) (u : Value) : Box (w.setCell p u) b t cs := (Below.heap_setCell w p u b hp).trans h
theorem row (h : Box w b t cs) (cs' : Array Value) : Box (w.setRow b cs') b t cs' := setRow_heap w b cs cs' t (0, 0) h
theorem rowFar (h : Box w b t cs) {g : Nat} (hg : b ≠ g) (cs' : Array Value) : Box (w.setRow g cs') b t cs := (setRow_other w g b cs' hg).trans h
theorem over {B : Nat} (h : Box w b t cs) (hb : Below B w w') (hg : b < B) : Box w' b t cs := (hb.block b hg).trans h
end Box

/-- Draws turn no block. -/
theorem below_drawn {B : Nat} {a w : World} (h : Below B a w) (n : Nat) : Below B a (w.drewN n) := ⟨h.os, h.tape, h.output, h.size, h.block⟩

/-- A struct that is built out of its parts: its cells by name. -/
theorem wpList_build_to {P : Program} {ops : Array Oper} {rest : List Oper} {o : Oper} {a : Act} {w : World} {Q : Exit → Act → World → Prop} (hg : o.guard = none) (t : TypeId) (parts : Array (Nat × Operand)) (ho : o.op = .build t parts)
    (cells : Array Value) (hc : P.built t (parts.map fun (i, x) => (i, a.eval x)).toList = some cells) (h : wpList P ops Q rest (a.put o.dst (.agg cells)) w) : wpList P ops Q (o :: rest) a w :=
  wpList_build hg t parts ho (by rw [hc]; rfl) (by rw [hc]; exact h)

theorem below_row {B g : Nat} {w0 w : World} (hb : Below B w0 w) (hBg : B ≤ g) (cs : Array Value) : Below B w0 (w.setRow g cs) :=
  ⟨hb.os, hb.tape, hb.output, by simpa using hb.size, fun k hk => (setRow_other w g k cs (by omega)).trans (hb.block k hk)⟩

/-- A whole struct or array is stored: the world behind it by what it is good for. -/
theorem wpList_store_box {P : Program} {ops : Array Oper} {rest : List Oper} {o : Oper} {a : Act} {w : World} {Q : Exit → Act → World → Prop} (hgd : o.guard = none) (ty : TypeId) (x y : Operand) (ho : o.op = .store ty x y)
    (g : Nat) (cells : Array Value) (hx : a.eval x = .pointer (some ⟨g, 0, none⟩)) (hy : a.eval y = .agg cells) (t : TypeId) (old : Array Value) (hg : Box w g t old) (hi : (P.info? ty).map (·.size) = some cells.size)
    (hold : old.size = cells.size) (h1 : cells.all (·.oneCell') = true) (h : ∀ w', Box w' g t cells → Below g w w' → wpList P ops Q rest (a.put o.dst undef) w') : wpList P ops Q (o :: rest) a w :=
  wpList_store_row hgd ty x y ho g cells hx hy t old hg hi hold h1 (h _ (hg.row cells) (below_row (Below.refl _ _) (Nat.le_refl _) cells))

/-- A new variable: its cells by name. -/
theorem wpList_alloc_to {P : Program} {ops : Array Oper} {rest : List Oper} {o : Oper} {a : Act} {w : World} {Q : Exit → Act → World → Prop} (hg : o.guard = none) (t : TypeId) (ho : o.op = .alloc t)
    (cells : Array Value) (hc : ∀ w : World, (Instr.alloc t true (.tuple #[])).run P w = .ok (.pointer (some ⟨w.heap.size, 0, none⟩)) (w.alloc (.cells cells t)))
    (n : Nat) (hn : w.heap.size = n) (h : wpList P ops Q rest (a.put o.dst (.pointer (some ⟨n, 0, none⟩))) (w.alloc (.cells cells t))) : wpList P ops Q (o :: rest) a w :=
  wpList_plain hg fun _ hK => by
    subst hn
    unfold Oper.wp execOp
    simp only [ho, Sem.run_bind, Sem.run_pure, Result.andThen_ok, hc w]
    exact hK _ _ h


abbrev wide (h l : Int) : Array Value := #[.int .u64 h, .int .u64 l]
theorem alloc_wide (w : World) : (Instr.alloc 51 true (.tuple #[])).run Try.prog w = .ok (.pointer (some ⟨w.heap.size, 0, none⟩)) (w.alloc (.cells (wide 0 0) 51)) := by kernel_rfl
theorem size_wide : (Try.prog.info? 51).map (·.size) = some 2 := by kernel_rfl
theorem one_wide (h l : Int) : (wide h l).all (·.oneCell') = true := by kernel_rfl
theorem two {w wr : World} {B : Nat} {OH OL AH AL z u : Int} (b5 : Box wr (B + 1) 51 (wide OH OL)) (b6 : Box wr (B + 1 + 1) 51 (wide AH AL)) (bel : Below B w wr) {Z U : Int} (hz : z = Z) (hu : u = U) :
    Box ((wr.setCell ⟨B + 1 + 1, 0, none⟩ (.int .u64 z)).setCell ⟨B + 1 + 1, 1, none⟩ (.int .u64 u)) (B + 1) 51 (wide OH OL) ∧ Box ((wr.setCell ⟨B + 1 + 1, 0, none⟩ (.int .u64 z)).setCell ⟨B + 1 + 1, 1, none⟩ (.int .u64 u)) (B + 1 + 1) 51 (wide Z U) ∧
      Below B w ((wr.setCell ⟨B + 1 + 1, 0, none⟩ (.int .u64 z)).setCell ⟨B + 1 + 1, 1, none⟩ (.int .u64 u)) := by
  subst hz hu
  refine ⟨(b5.putFar (p := ⟨B + 1 + 1, 0, none⟩) (by simp) _).putFar (p := ⟨B + 1 + 1, 1, none⟩) (by simp) _, (b6.put 0 _).put 1 _, (bel.setCell (by simp; omega) _).setCell (by simp; omega) _⟩
theorem four {w wr : World} {B : Nat} {OH OL AH AL x y z u : Int} (b5 : Box wr (B + 1) 51 (wide OH OL)) (b6 : Box wr (B + 1 + 1) 51 (wide AH AL)) (bel : Below B w wr) {X Y Z U : Int} (hx : x = X) (hy : y = Y) (hz : z = Z) (hu : u = U) :
    Box ((((wr.setCell ⟨B + 1, 0, none⟩ (.int .u64 x)).setCell ⟨B + 1, 1, none⟩ (.int .u64 y)).setCell ⟨B + 1 + 1, 0, none⟩ (.int .u64 z)).setCell ⟨B + 1 + 1, 1, none⟩ (.int .u64 u)) (B + 1) 51 (wide X Y) ∧
    Box ((((wr.setCell ⟨B + 1, 0, none⟩ (.int .u64 x)).setCell ⟨B + 1, 1, none⟩ (.int .u64 y)).setCell ⟨B + 1 + 1, 0, none⟩ (.int .u64 z)).setCell ⟨B + 1 + 1, 1, none⟩ (.int .u64 u)) (B + 1 + 1) 51 (wide Z U) ∧
      Below B w ((((wr.setCell ⟨B + 1, 0, none⟩ (.int .u64 x)).setCell ⟨B + 1, 1, none⟩ (.int .u64 y)).setCell ⟨B + 1 + 1, 0, none⟩ (.int .u64 z)).setCell ⟨B + 1 + 1, 1, none⟩ (.int .u64 u)) := by
  subst hx hy
  have c5 : Box ((wr.setCell ⟨B + 1, 0, none⟩ (.int .u64 x)).setCell ⟨B + 1, 1, none⟩ (.int .u64 y)) (B + 1) 51 (wide x y) := (b5.put 0 _).put 1 _
  have c6 : Box ((wr.setCell ⟨B + 1, 0, none⟩ (.int .u64 x)).setCell ⟨B + 1, 1, none⟩ (.int .u64 y)) (B + 1 + 1) 51 (wide AH AL) := (b6.putFar (p := ⟨B + 1, 0, none⟩) (by simp) _).putFar (p := ⟨B + 1, 1, none⟩) (by simp) _
  exact two c5 c6 ((bel.setCell (by simp) _).setCell (by simp) _) hz hu
def nh (AH AL : Nat) : Nat := AH * 2 % 18446744073709551616 + AL / 9223372036854775808
theorem kept2 {wr : World} {B : Nat} {x y z u : Value} (b4 : Box wr B 51 (wide 0 0)) : Box ((wr.setCell ⟨B + 1 + 1, 0, none⟩ z).setCell ⟨B + 1 + 1, 1, none⟩ u) B 51 (wide 0 0) :=
  (b4.putFar (p := ⟨B + 1 + 1, 0, none⟩) (by simp; omega) _).putFar (p := ⟨B + 1 + 1, 1, none⟩) (by simp; omega) _
theorem kept4 {wr : World} {B : Nat} {x y z u : Value} (b4 : Box wr B 51 (wide 0 0)) : Box ((((wr.setCell ⟨B + 1, 0, none⟩ x).setCell ⟨B + 1, 1, none⟩ y).setCell ⟨B + 1 + 1, 0, none⟩ z).setCell ⟨B + 1 + 1, 1, none⟩ u) B 51 (wide 0 0) :=
  kept2 (x := x) (y := y) ((b4.putFar (p := ⟨B + 1, 0, none⟩) (by simp) _).putFar (p := ⟨B + 1, 1, none⟩) (by simp) _)
theorem nh_eq (AH AL : Nat) (h1 : AH < 18446744073709551616) (h2 : AL < 18446744073709551616) : bits .or .u64 (IntKind.u64.wrap ((AH : Int) * 2)) ((AL : Int) / 9223372036854775808) = (nh AH AL : Nat) := by
  have j1 := or_even (AH * 2 % 18446744073709551616) (AL / 9223372036854775808) (by omega) (by omega) (by omega)
  have j2 : IntKind.u64.wrap ((AH : Int) * 2) = ((AH * 2 % 18446744073709551616 : Nat) : Int) := by rw [IntKind.wrap_u64]; omega
  have j3 : (AL : Int) / 9223372036854775808 = ((AL / 9223372036854775808 : Nat) : Int) := by omega
  rw [j2, j3, j1]; rfl
theorem nl_eq (AL : Nat) : IntKind.u64.wrap ((AL : Int) * 2) = ((AL * 2 % 18446744073709551616 : Nat) : Int) := by rw [IntKind.wrap_u64]; omega
theorem next_eq {a k AH AL : Nat} (h1 : AH < 18446744073709551616) (h2 : AL < 18446744073709551616) (h : AH * 18446744073709551616 + AL = a * 2 ^ k % 340282366920938463463374607431768211456) :
    nh AH AL < 18446744073709551616 ∧ AL * 2 % 18446744073709551616 < 18446744073709551616 ∧ nh AH AL * 18446744073709551616 + AL * 2 % 18446744073709551616 = a * 2 ^ (k + 1) % 340282366920938463463374607431768211456 := by
  rw [add_next, ← h]; unfold nh
  omega
theorem sum_eq {a b k OH OL AH AL : Nat} (ha : a < 18446744073709551616) (hb : b < 18446744073709551616) (h1 : OH < 18446744073709551616) (h2 : OL < 18446744073709551616) (h3 : AH < 18446744073709551616) (h4 : AL < 18446744073709551616)
    (hbit : b / 2 ^ k % 2 = 1) (s1 : OH * 18446744073709551616 + OL = a * (b % 2 ^ k)) (s2 : AH * 18446744073709551616 + AL = a * 2 ^ k % 340282366920938463463374607431768211456) :
    (OH + AH + (OL + AL) / 18446744073709551616) < 18446744073709551616 ∧ (OL + AL) % 18446744073709551616 < 18446744073709551616 ∧ (OH + AH + (OL + AL) / 18446744073709551616) * 18446744073709551616 + (OL + AL) % 18446744073709551616 = a * (b % 2 ^ (k + 1)) := by
  obtain ⟨p1, p2, p3⟩ := prod_yes (k := k) ha hb hbit
  rw [p1] at s2
  rw [p2] at p3 ⊢
  rw [← s1, ← s2] at p3 ⊢
  omega
set_option maxHeartbeats 1000000 in
theorem prod_any (a b : Nat) (ha : a < 18446744073709551616) (hb : b < 18446744073709551616) (w : World) :
    Calls Try.prog 52 #[.int .u64 a, .int .u64 b] w fun e w' => e = .returned (.agg (wide (a * b / 18446744073709551616 : Nat) (a * b % 18446744073709551616 : Nat))) ∧ Below w.heap.size w w' := by
  go_enter Try.func52, Try.ntmps52
  go_wp2_with fail
  go_loopw [7] (fun i wr => ∃ k OH OL AH AL : Nat, k ≤ 64 ∧ i = .int .i64 k ∧ OH < 18446744073709551616 ∧ OL < 18446744073709551616 ∧ AH < 18446744073709551616 ∧ AL < 18446744073709551616 ∧
    Box wr w.heap.size 51 (wide 0 0) ∧ Box wr (w.heap.size + 1) 51 (wide OH OL) ∧ Box wr (w.heap.size + 1 + 1) 51 (wide AH AL) ∧ Below w.heap.size w wr ∧
    OH * 18446744073709551616 + OL = a * (b % 2 ^ k) ∧ AH * 18446744073709551616 + AL = a * 2 ^ k % 340282366920938463463374607431768211456) (fun i _ => 64 - (intOf i).toNat)
  case atStart =>
    refine ⟨0, 0, 0, 0, a, by omega, rfl, by omega, by omega, by omega, ha, ?_, ?_, ?_, ?_, by simp [Nat.mod_one], by simp; omega⟩
    · exact ((Box.made w 51 (wide 0 0)).more _).more _
    · have := Box.made (w.alloc (.cells (wide 0 0) 51)) 51 (wide 0 0)
      simp at this
      exact this.more _
    · have := Box.made ((w.alloc (.cells (wide 0 0) 51)).alloc (.cells (wide 0 0) 51)) 51 (wide 0 a)
      simp at this
      exact this
    · exact (((Below.refl _ _).alloc (Nat.le_refl _) _).alloc (by simp) _).alloc (by simp; omega) _
  case round =>
    obtain ⟨k, OH, OL, AH, AL, hk, rfl, g1, g2, g3, g4, b4, b5, b6, bel, s1, s2⟩ := hrel
    by_cases hlt : k < 64
    · have c50 : wr.cell? ⟨w.heap.size + 1, 0, none⟩ = some (.int .u64 OH) := b5.read 0
      have c51 : wr.cell? ⟨w.heap.size + 1, 1, none⟩ = some (.int .u64 OL) := b5.read 1
      have c60 : wr.cell? ⟨w.heap.size + 1 + 1, 0, none⟩ = some (.int .u64 AH) := b6.read 0
      have c61 : wr.cell? ⟨w.heap.size + 1 + 1, 1, none⟩ = some (.int .u64 AL) := b6.read 1
      have f50 := b5.warm 0
      have f51 := b5.warm 1
      have f60 := b6.warm 0
      have f61 := b6.warm 1
      have k1 := bit_and b k hb
      have nx := next_eq g3 g4 s2
      by_cases hbit : b / 2 ^ k % 2 = 1
      · have k2 : bits .and .u64 ((b : Int) / 2 ^ k) 1 = 1 := by rw [k1, hbit]; rfl
        clear k1
        have sm := sum_eq ha hb g1 g2 g3 g4 hbit s1 s2
        by_cases hc : OL + AL < 18446744073709551616
        · have HS := Lib.hid (And.intro nx sm)
          have HB := Lib.hid (And.intro b5 (And.intro b6 bel)); have HB4 := Lib.hid b4
          clear s1 s2 b4 b5 b6 bel nx sm
          go_wp2_with fail
          go_roundw
          case rel =>
            have e := HS.out
            have t := four HB.out.1 HB.out.2.1 HB.out.2.2 (x := IntKind.u64.wrap (IntKind.u64.wrap (↑OH + ↑AH))) (y := ↑OL + ↑AL) (X := ((OH + AH + (OL + AL) / 18446744073709551616 : Nat) : Int)) (Y := (((OL + AL) % 18446744073709551616 : Nat) : Int)) (by rw [IntKind.wrap_u64, IntKind.wrap_u64]; omega) (by omega) (nh_eq AH AL g3 g4) (nl_eq AL)
            exact ⟨k + 1, _, _, _, _, by omega, by go_num, e.2.1, e.2.2.1, e.1.1, e.1.2.1, kept4 HB4.out, t.1, t.2.1, t.2.2, e.2.2.2, e.1.2.2⟩
          case measure => simp [intOf]; omega
        · have HS := Lib.hid (And.intro nx sm)
          have HB := Lib.hid (And.intro b5 (And.intro b6 bel)); have HB4 := Lib.hid b4
          clear s1 s2 b4 b5 b6 bel nx sm
          have m1 : IntKind.u64.wrap ((OL : Int) + AL) = (OL : Int) + AL - 18446744073709551616 := by rw [IntKind.wrap_u64]; omega
          go_wp2_with fail
          go_roundw
          case rel => 
            have e := HS.out
            have t := four HB.out.1 HB.out.2.1 HB.out.2.2 (x := IntKind.u64.wrap (IntKind.u64.wrap (↑OH + ↑AH) + 1)) (y := ↑OL + ↑AL - 18446744073709551616) (X := ((OH + AH + (OL + AL) / 18446744073709551616 : Nat) : Int)) (Y := (((OL + AL) % 18446744073709551616 : Nat) : Int)) (by rw [IntKind.wrap_u64, IntKind.wrap_u64]; omega) (by omega) (nh_eq AH AL g3 g4) (nl_eq AL)
            exact ⟨k + 1, _, _, _, _, by omega, by go_num, e.2.1, e.2.2.1, e.1.1, e.1.2.1, kept4 HB4.out, t.1, t.2.1, t.2.2, e.2.2.2, e.1.2.2⟩
          case measure => simp [intOf]; omega
      · have k2 : bits .and .u64 ((b : Int) / 2 ^ k) 1 = 0 := by rw [k1, show b / 2 ^ k % 2 = 0 by omega]; rfl
        clear k1
        have pn := prod_no (a := a) hbit
        have HS := Lib.hid (And.intro nx (And.intro s1 pn))
        have HB := Lib.hid (And.intro b5 (And.intro b6 bel)); have HB4 := Lib.hid b4
        clear s1 s2 b4 b5 b6 bel nx pn
        go_wp2_with fail
        go_roundw
        case rel =>
          have e := HS.out
          have t := two HB.out.1 HB.out.2.1 HB.out.2.2 (nh_eq AH AL g3 g4) (nl_eq AL)
          exact ⟨k + 1, OH, OL, _, _, by omega, by go_num, g1, g2, e.1.1, e.1.2.1, kept2 (x := undef) (y := undef) HB4.out, t.1, t.2.1, t.2.2, e.2.2 ▸ e.2.1, e.1.2.2⟩
        case measure => simp [intOf]; omega
    · have H64 := Lib.hid (show k = 64 by omega)
      have c50 : wr.cell? ⟨w.heap.size + 1, 0, none⟩ = some (.int .u64 OH) := b5.read 0
      have c51 : wr.cell? ⟨w.heap.size + 1, 1, none⟩ = some (.int .u64 OL) := b5.read 1
      have c40 : wr.cell? ⟨w.heap.size, 0, none⟩ = some (.int .u64 0) := b4.read 0
      have c41 : wr.cell? ⟨w.heap.size, 1, none⟩ = some (.int .u64 0) := b4.read 1
      have f40 := b4.warm 0
      have f41 := b4.warm 1
      have b7 : Box ((wr.setCell ⟨w.heap.size, 0, none⟩ (.int .u64 OH)).setCell ⟨w.heap.size, 1, none⟩ (.int .u64 OL)) w.heap.size 51 (wide OH OL) := (b4.put 0 _).put 1 _
      have bel7 : Below w.heap.size w ((wr.setCell ⟨w.heap.size, 0, none⟩ (.int .u64 OH)).setCell ⟨w.heap.size, 1, none⟩ (.int .u64 OL)) := (bel.setCell (Nat.le_refl _) _).setCell (Nat.le_refl _) _
      have HB := Lib.hid (And.intro b7 bel7)
      have HS := Lib.hid (And.intro s1 (mul_bd ha hb))
      clear s1 s2 b4 b5 b6 bel b7 bel7
      go_wp2_with fail
      have e := HS.out
      rw [H64.out, Nat.mod_eq_of_lt (show b < 2 ^ 64 from hb)] at e
      have q1 : OH = a * b / 18446744073709551616 := by omega
      have q2 : OL = a * b % 18446744073709551616 := by omega
      subst q1 q2
      exact bodyPost_ret (results_cell_row rfl _ _ w.heap.size 51 (wide _ _) (0, 0) _ rfl HB.out.1 Try.underlying51 rfl size_wide) rfl ⟨rfl, HB.out.2⟩
end Go.Proofs.Ytgfhjldfhcoagaa
