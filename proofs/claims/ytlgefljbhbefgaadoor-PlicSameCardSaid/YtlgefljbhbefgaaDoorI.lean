/- Which register: find. -/
import Derived.Test.YtlgefljbhbefgaaDoorH
set_option linter.unusedVariables false
set_option linter.unusedSimpArgs false
namespace Go.Proofs.YtlgefljbhbefgaaDoor
open Go.RowKit
attribute [local go_sem] Oper.semAt_some
theorem below_row {B g : Nat} {w0 w : World} (hb : Below B w0 w) (hBg : B ≤ g) (cs : Array Value) : Below B w0 (w.setRow g cs) :=
  ⟨hb.os, hb.tape, hb.output, by simpa using hb.size, fun k hk => (setRow_other w g k cs (by omega)).trans (hb.block k hk)⟩
/-- A whole struct or array is stored: the world behind it by what it is good for. -/
theorem wpList_store_box {P : Program} {ops : Array Oper} {rest : List Oper} {o : Oper} {a : Act} {w : World} {Q : Exit → Act → World → Prop} (hgd : o.guard = none) (ty : TypeId) (x y : Operand) (ho : o.op = .store ty x y)
    (g : Nat) (cells : Array Value) (hx : a.eval x = .pointer (some ⟨g, 0, none⟩)) (hy : a.eval y = .agg cells) (t : TypeId) (old : Array Value) (hg : Box w g t old) (hi : (P.info? ty).map (·.size) = some cells.size)
    (hold : old.size = cells.size) (h1 : cells.all (·.oneCell') = true) (h : ∀ w', Box w' g t cells → Below g w w' → wpList P ops Q rest (a.put o.dst undef) w') : wpList P ops Q (o :: rest) a w :=
  wpList_store_row hgd ty x y ho g cells hx hy t old hg hi hold h1 (h _ (hg.row cells) (below_row (Below.refl _ _) (Nat.le_refl _) cells))
theorem wrap8 : ∀ n : Nat, n < 8 → IntKind.i64.wrap (n : Int) = (n : Int) := by decide +kernel
/-- A bound function. -/
abbrev bnd (f P : Nat) (n : Int) : Value := .func (.func f) #[plc2 P n] #[]
section
variable {w : World} {P : Nat} {s : PS}
set_option maxHeartbeats 1000000 in
theorem find_en1 (w : World) : Calls Tryd.prog 36 #[.pointer (some ⟨P, 0, none⟩), .int .u64 8320] w fun e w' => e = .returned (.agg #[bnd 43 P 1, bnd 44 P 1]) ∧ Below w.heap.size w w' := by
  go_enter Tryd.func36, Tryd.ntmps36
  go_wp2_with (first
    | (go_at_call 23; refine (isSource_any 2080 _).mono ?_; rintro e w' ⟨rfl, rfl⟩)
    | (refine wpList_store_box rfl 74 _ _ rfl w.heap.size #[bnd 43 P 1, bnd 44 P 1] rfl rfl 74 #[.nilFunc, .nilFunc] (((Box.made w 74 _).more _)) (by kernel_rfl) rfl (by rw [← Array.all_toList]; rfl) ?_; intro w3 hb3 hbl3; have H3 := Lib.hid (And.intro hb3 hbl3); clear hb3 hbl3))
  obtain ⟨hb3, hbl3⟩ := H3.out
  have T3 : Below w.heap.size w w3 := (((Below.refl w.heap.size w).alloc (Nat.le_refl _) _).alloc (by simp) _).trans hbl3
  exact bodyPost_ret (v := .agg #[bnd 43 P 1, bnd 44 P 1]) (results_cell_row rfl _ _ w.heap.size 74 #[bnd 43 P 1, bnd 44 P 1] (0, 0) _ rfl hb3 Tryd.underlying74 rfl (by kernel_rfl)) rfl ⟨rfl, T3⟩
set_option maxHeartbeats 1000000 in
theorem find_en0 (w : World) : Calls Tryd.prog 36 #[.pointer (some ⟨P, 0, none⟩), .int .u64 8192] w fun e w' => e = .returned (.agg #[bnd 43 P 0, bnd 44 P 0]) ∧ Below w.heap.size w w' := by
  go_enter Tryd.func36, Tryd.ntmps36
  go_wp2_with (first
    | (go_at_call 23; refine (isSource_any 2048 _).mono ?_; rintro e w' ⟨rfl, rfl⟩)
    | (refine wpList_store_box rfl 74 _ _ rfl w.heap.size #[bnd 43 P 0, bnd 44 P 0] rfl rfl 74 #[.nilFunc, .nilFunc] (((Box.made w 74 _).more _)) (by kernel_rfl) rfl (by rw [← Array.all_toList]; rfl) ?_; intro w3 hb3 hbl3; have H3 := Lib.hid (And.intro hb3 hbl3); clear hb3 hbl3))
  obtain ⟨hb3, hbl3⟩ := H3.out
  have T3 : Below w.heap.size w w3 := (((Below.refl w.heap.size w).alloc (Nat.le_refl _) _).alloc (by simp) _).trans hbl3
  exact bodyPost_ret (v := .agg #[bnd 43 P 0, bnd 44 P 0]) (results_cell_row rfl _ _ w.heap.size 74 #[bnd 43 P 0, bnd 44 P 0] (0, 0) _ rfl hb3 Tryd.underlying74 rfl (by kernel_rfl)) rfl ⟨rfl, T3⟩
set_option maxHeartbeats 1000000 in
theorem find_th1 (w : World) : Calls Tryd.prog 36 #[.pointer (some ⟨P, 0, none⟩), .int .u64 2101248] w fun e w' => e = .returned (.agg #[bnd 45 P 1, bnd 46 P 1]) ∧ Below w.heap.size w w' := by
  go_enter Tryd.func36, Tryd.ntmps36
  go_wp2_with (first
    | (go_at_call 23; refine (isSource_any 525312 _).mono ?_; rintro e w' ⟨rfl, rfl⟩)
    | (refine wpList_store_box rfl 74 _ _ rfl w.heap.size #[bnd 45 P 1, bnd 46 P 1] rfl rfl 74 #[.nilFunc, .nilFunc] (((Box.made w 74 _).more _)) (by kernel_rfl) rfl (by rw [← Array.all_toList]; rfl) ?_; intro w3 hb3 hbl3; have H3 := Lib.hid (And.intro hb3 hbl3); clear hb3 hbl3))
  obtain ⟨hb3, hbl3⟩ := H3.out
  have T3 : Below w.heap.size w w3 := (((Below.refl w.heap.size w).alloc (Nat.le_refl _) _).alloc (by simp) _).trans hbl3
  exact bodyPost_ret (v := .agg #[bnd 45 P 1, bnd 46 P 1]) (results_cell_row rfl _ _ w.heap.size 74 #[bnd 45 P 1, bnd 46 P 1] (0, 0) _ rfl hb3 Tryd.underlying74 rfl (by kernel_rfl)) rfl ⟨rfl, T3⟩
set_option maxHeartbeats 1000000 in
theorem find_th0 (w : World) : Calls Tryd.prog 36 #[.pointer (some ⟨P, 0, none⟩), .int .u64 2097152] w fun e w' => e = .returned (.agg #[bnd 45 P 0, bnd 46 P 0]) ∧ Below w.heap.size w w' := by
  go_enter Tryd.func36, Tryd.ntmps36
  go_wp2_with (first
    | (go_at_call 23; refine (isSource_any 524288 _).mono ?_; rintro e w' ⟨rfl, rfl⟩)
    | (refine wpList_store_box rfl 74 _ _ rfl w.heap.size #[bnd 45 P 0, bnd 46 P 0] rfl rfl 74 #[.nilFunc, .nilFunc] (((Box.made w 74 _).more _)) (by kernel_rfl) rfl (by rw [← Array.all_toList]; rfl) ?_; intro w3 hb3 hbl3; have H3 := Lib.hid (And.intro hb3 hbl3); clear hb3 hbl3))
  obtain ⟨hb3, hbl3⟩ := H3.out
  have T3 : Below w.heap.size w w3 := (((Below.refl w.heap.size w).alloc (Nat.le_refl _) _).alloc (by simp) _).trans hbl3
  exact bodyPost_ret (v := .agg #[bnd 45 P 0, bnd 46 P 0]) (results_cell_row rfl _ _ w.heap.size 74 #[bnd 45 P 0, bnd 46 P 0] (0, 0) _ rfl hb3 Tryd.underlying74 rfl (by kernel_rfl)) rfl ⟨rfl, T3⟩
set_option maxHeartbeats 1000000 in
theorem find_cl1 (w : World) : Calls Tryd.prog 36 #[.pointer (some ⟨P, 0, none⟩), .int .u64 2101252] w fun e w' => e = .returned (.agg #[bnd 47 P 1, bnd 48 P 1]) ∧ Below w.heap.size w w' := by
  go_enter Tryd.func36, Tryd.ntmps36
  go_wp2_with (first
    | (go_at_call 23; refine (isSource_any 525313 _).mono ?_; rintro e w' ⟨rfl, rfl⟩)
    | (refine wpList_store_box rfl 74 _ _ rfl w.heap.size #[bnd 47 P 1, bnd 48 P 1] rfl rfl 74 #[.nilFunc, .nilFunc] (((Box.made w 74 _).more _)) (by kernel_rfl) rfl (by rw [← Array.all_toList]; rfl) ?_; intro w3 hb3 hbl3; have H3 := Lib.hid (And.intro hb3 hbl3); clear hb3 hbl3))
  obtain ⟨hb3, hbl3⟩ := H3.out
  have T3 : Below w.heap.size w w3 := (((Below.refl w.heap.size w).alloc (Nat.le_refl _) _).alloc (by simp) _).trans hbl3
  exact bodyPost_ret (v := .agg #[bnd 47 P 1, bnd 48 P 1]) (results_cell_row rfl _ _ w.heap.size 74 #[bnd 47 P 1, bnd 48 P 1] (0, 0) _ rfl hb3 Tryd.underlying74 rfl (by kernel_rfl)) rfl ⟨rfl, T3⟩
set_option maxHeartbeats 1000000 in
theorem find_cl0 (w : World) : Calls Tryd.prog 36 #[.pointer (some ⟨P, 0, none⟩), .int .u64 2097156] w fun e w' => e = .returned (.agg #[bnd 47 P 0, bnd 48 P 0]) ∧ Below w.heap.size w w' := by
  go_enter Tryd.func36, Tryd.ntmps36
  go_wp2_with (first
    | (go_at_call 23; refine (isSource_any 524289 _).mono ?_; rintro e w' ⟨rfl, rfl⟩)
    | (refine wpList_store_box rfl 74 _ _ rfl w.heap.size #[bnd 47 P 0, bnd 48 P 0] rfl rfl 74 #[.nilFunc, .nilFunc] (((Box.made w 74 _).more _)) (by kernel_rfl) rfl (by rw [← Array.all_toList]; rfl) ?_; intro w3 hb3 hbl3; have H3 := Lib.hid (And.intro hb3 hbl3); clear hb3 hbl3))
  obtain ⟨hb3, hbl3⟩ := H3.out
  have T3 : Below w.heap.size w w3 := (((Below.refl w.heap.size w).alloc (Nat.le_refl _) _).alloc (by simp) _).trans hbl3
  exact bodyPost_ret (v := .agg #[bnd 47 P 0, bnd 48 P 0]) (results_cell_row rfl _ _ w.heap.size 74 #[bnd 47 P 0, bnd 48 P 0] (0, 0) _ rfl hb3 Tryd.underlying74 rfl (by kernel_rfl)) rfl ⟨rfl, T3⟩
set_option maxHeartbeats 1000000 in
theorem find_pnd (w : World) : Calls Tryd.prog 36 #[.pointer (some ⟨P, 0, none⟩), .int .u64 4096] w fun e w' => e = .returned (.agg #[bnd 49 P 0, bnd 50 P 0]) ∧ Below w.heap.size w w' := by
  go_enter Tryd.func36, Tryd.ntmps36
  go_wp2_with (first
    | (go_at_call 23; refine (isSource_any 1024 _).mono ?_; rintro e w' ⟨rfl, rfl⟩)
    | (refine wpList_store_box rfl 74 _ _ rfl w.heap.size #[bnd 49 P 0, bnd 50 P 0] rfl rfl 74 #[.nilFunc, .nilFunc] (((Box.made w 74 _).more _)) (by kernel_rfl) rfl (by rw [← Array.all_toList]; rfl) ?_; intro w3 hb3 hbl3; have H3 := Lib.hid (And.intro hb3 hbl3); clear hb3 hbl3))
  obtain ⟨hb3, hbl3⟩ := H3.out
  have T3 : Below w.heap.size w w3 := (((Below.refl w.heap.size w).alloc (Nat.le_refl _) _).alloc (by simp) _).trans hbl3
  exact bodyPost_ret (v := .agg #[bnd 49 P 0, bnd 50 P 0]) (results_cell_row rfl _ _ w.heap.size 74 #[bnd 49 P 0, bnd 50 P 0] (0, 0) _ rfl hb3 Tryd.underlying74 rfl (by kernel_rfl)) rfl ⟨rfl, T3⟩
set_option maxHeartbeats 1000000 in
theorem find_pri (n off : Nat) (hq : off / 4 = n) (h1 : 1 ≤ n) (h8 : n < 8) (w : World) : Calls Tryd.prog 36 #[.pointer (some ⟨P, 0, none⟩), .int .u64 off] w fun e w' => e = .returned (.agg #[bnd 41 P n, bnd 42 P n]) ∧ Below w.heap.size w w' := by
  have HI := Lib.hid fun w => isSource_to n true (decide_eq_true ⟨h1, h8⟩) w
  have hd1 : (off : Int) / 4 = ((n : Nat) : Int) := by omega
  have hd2 : (off : Int).tdiv 4 = ((n : Nat) : Int) := by rw [← hd1]; rfl
  have hw : IntKind.i64.wrap (n : Int) = (n : Int) := wrap8 n h8
  clear hq
  go_enter Tryd.func36, Tryd.ntmps36
  go_wp2_with (first
    | (go_at_call 23; refine (HI.out _).mono ?_; rintro e w' ⟨rfl, rfl⟩)
    | (refine wpList_store_box rfl 74 _ _ rfl w.heap.size #[bnd 41 P n, bnd 42 P n] rfl rfl 74 #[.nilFunc, .nilFunc] (((Box.made w 74 _).more _)) (by kernel_rfl) rfl (by rw [← Array.all_toList]; rfl) ?_; intro w3 hb3 hbl3; have H3 := Lib.hid (And.intro hb3 hbl3); clear hb3 hbl3))
  obtain ⟨hb3, hbl3⟩ := H3.out
  have T3 : Below w.heap.size w w3 := (((Below.refl w.heap.size w).alloc (Nat.le_refl _) _).alloc (by simp) _).trans hbl3
  exact bodyPost_ret (v := .agg #[bnd 41 P n, bnd 42 P n]) (results_cell_row rfl _ _ w.heap.size 74 #[bnd 41 P n, bnd 42 P n] (0, 0) _ rfl hb3 Tryd.underlying74 rfl (by kernel_rfl)) rfl ⟨rfl, T3⟩
set_option maxHeartbeats 1000000 in
theorem find_none (off : Nat) (ho : off < 2105344) (hq : ¬ (1 ≤ off / 4 ∧ off / 4 < 8)) (h1 : off ≠ 8320) (h2 : off ≠ 8192) (h3 : off ≠ 2101248) (h4 : off ≠ 2097152) (h5 : off ≠ 2101252) (h6 : off ≠ 2097156) (h7 : off ≠ 4096) (w : World) : Calls Tryd.prog 36 #[.pointer (some ⟨P, 0, none⟩), .int .u64 off] w fun e w' => e = .returned (.agg #[bnd 51 P 0, bnd 50 P 0]) ∧ Below w.heap.size w w' := by
  obtain ⟨n, hn⟩ : ∃ n : Nat, off / 4 = n := ⟨_, rfl⟩
  rw [hn] at hq
  have HI := Lib.hid fun w => isSource_to n false (decide_eq_false hq) w
  have hd1 : (off : Int) / 4 = ((n : Nat) : Int) := by omega
  have hd2 : (off : Int).tdiv 4 = ((n : Nat) : Int) := by rw [← hd1]; rfl
  have hnb : (n : Int) < 526336 := by omega
  have hw : IntKind.u64.wrap (n : Int) = (n : Int) := by rw [IntKind.wrap_u64]; omega
  have e1 : ((off : Int) == 8320) = false := beq_eq_false_iff_ne.2 (by omega)
  have e2 : ((off : Int) == 8192) = false := beq_eq_false_iff_ne.2 (by omega)
  have e3 : ((off : Int) == 2101248) = false := beq_eq_false_iff_ne.2 (by omega)
  have e4 : ((off : Int) == 2097152) = false := beq_eq_false_iff_ne.2 (by omega)
  have e5 : ((off : Int) == 2101252) = false := beq_eq_false_iff_ne.2 (by omega)
  have e6 : ((off : Int) == 2097156) = false := beq_eq_false_iff_ne.2 (by omega)
  have e7 : ((off : Int) == 4096) = false := beq_eq_false_iff_ne.2 (by omega)
  clear hq hn h1 h2 h3 h4 h5 h6 h7
  go_enter Tryd.func36, Tryd.ntmps36
  go_wp2_with (first
    | (go_at_call 23; refine (HI.out _).mono ?_; rintro e w' ⟨rfl, rfl⟩)
    | (refine wpList_store_box rfl 74 _ _ rfl w.heap.size #[bnd 51 P 0, bnd 50 P 0] rfl rfl 74 #[.nilFunc, .nilFunc] (((Box.made w 74 _).more _)) (by kernel_rfl) rfl (by rw [← Array.all_toList]; rfl) ?_; intro w3 hb3 hbl3; have H3 := Lib.hid (And.intro hb3 hbl3); clear hb3 hbl3))
  obtain ⟨hb3, hbl3⟩ := H3.out
  have T3 : Below w.heap.size w w3 := (((Below.refl w.heap.size w).alloc (Nat.le_refl _) _).alloc (by simp) _).trans hbl3
  exact bodyPost_ret (v := .agg #[bnd 51 P 0, bnd 50 P 0]) (results_cell_row rfl _ _ w.heap.size 74 #[bnd 51 P 0, bnd 50 P 0] (0, 0) _ rfl hb3 Tryd.underlying74 rfl (by kernel_rfl)) rfl ⟨rfl, T3⟩
end
end Go.Proofs.YtlgefljbhbefgaaDoor
