/- Read and Write of the program's PLIC. -/
import Derived.Test.YtlgefljbhbefgaaDoorI
set_option linter.unusedVariables false
set_option linter.unusedSimpArgs false
namespace Go.Proofs.YtlgefljbhbefgaaDoor
open Go.RowKit
attribute [local go_sem] Oper.semAt_some
section
variable {w : World} {P : Nat} {s : PS}
/-- Read, by what find tells and what is read. -/
theorem read_by (h : Box w P 58 (plc s)) (off : Nat) (hr : isReg off 4 = true) (rf wf : Nat) (n : Int) (x : Nat) (s' : PS)
    (hen : ∀ args w, (callFunc rf args).run Tryd.prog w = .ok (.enter rf args) w)
    (hf : ∀ W, Calls Tryd.prog 36 #[.pointer (some ⟨P, 0, none⟩), .int .u64 off] W fun e w' => e = .returned (.agg #[bnd rf P n, bnd wf P n]) ∧ Below W.heap.size W w')
    (hg : ∀ W, Box W P 58 (plc s) → Calls Tryd.prog rf #[plc2 P n] W fun e w' => e = .returned (.int .u64 x) ∧ Box w' P 58 (plc s') ∧ Only P W w') :
    Calls Tryd.prog 17 #[.pointer (some ⟨P, 0, none⟩), .int .u64 off, .int .i64 4] w fun e w' => e = .returned (.tuple #[.int .u64 x, .bool true]) ∧ Box w' P 58 (plc s') ∧ Only P w w' := by
  have HR := Lib.hid (isReg_any h off 4)
  rw [hr] at HR
  have HB := Lib.hid h
  have HF := Lib.hid hf
  have HG := Lib.hid hg
  clear h hr hf hg
  go_enter Tryd.func17, Tryd.ntmps17
  go_wp2_with (first
    | (go_at_call 35; refine HR.out.mono ?_; rintro e w' ⟨rfl, rfl⟩)
    | (go_at_call 36; refine (HF.out _).mono ?_; rintro e w2 ⟨rfl, hb2⟩; have T2 := Lib.hid hb2; clear hb2)
    | (refine wpList_store_box rfl 74 _ _ rfl w2.heap.size #[bnd rf P n, bnd wf P n] rfl rfl 74 #[.nilFunc, .nilFunc] (Box.made w2 74 _) (by kernel_rfl) rfl (by rw [← Array.all_toList]; rfl) ?_; intro w3 hb3 hbl3; have d0 := hb3.read 0; have T3 := Lib.hid (T2.out.trans (((Below.refl w2.heap.size w2).alloc (Nat.le_refl _) _).trans hbl3 |>.mono T2.out.size)); clear hb3 hbl3; simp only [List.getElem?_toArray, List.getElem?_cons_zero] at d0))
  refine (HG.out _ (HB.out.over T3.out HB.out.inHeap)).mono ?_
  rintro e w4 ⟨rfl, h1, h2⟩
  have H4 := Lib.hid (And.intro h1 ((Only.ofBelow T3.out).trans h2))
  clear h1 h2
  go_wp2
  go_ret2
  exact ⟨rfl, H4.out.1, H4.out.2⟩
theorem read_no (h : Box w P 58 (plc s)) (off : Nat) (width : Int) (hr : isReg off width = false) : Calls Tryd.prog 17 #[.pointer (some ⟨P, 0, none⟩), .int .u64 off, .int .i64 width] w fun e w' => e = .returned (.tuple #[.int .u64 0, .bool false]) ∧ w = w' := by
  have HR := Lib.hid (isReg_any h off width)
  rw [hr] at HR
  clear h hr
  go_enter Tryd.func17, Tryd.ntmps17
  go_wp2_with (go_at_call 35; refine HR.out.mono ?_; rintro e w' ⟨rfl, rfl⟩)
  go_ret2
  exact ⟨rfl, rfl⟩
/-- Write, by what find tells and what is written. -/
theorem write_by (h : Box w P 58 (plc s)) (off v : Nat) (hv : v < 18446744073709551616) (hr : isReg off 4 = true) (rf wf : Nat) (n : Int) (s' : PS)
    (hen : ∀ args w, (callFunc wf args).run Tryd.prog w = .ok (.enter wf args) w)
    (hf : ∀ W, Calls Tryd.prog 36 #[.pointer (some ⟨P, 0, none⟩), .int .u64 off] W fun e w' => e = .returned (.agg #[bnd rf P n, bnd wf P n]) ∧ Below W.heap.size W w')
    (hg : ∀ W, Box W P 58 (plc s) → Calls Tryd.prog wf #[plc2 P n, .int .u32 (v % 4294967296 : Nat)] W fun e w' => e = .returned (.tuple #[]) ∧ Box w' P 58 (plc s') ∧ Only P W w') :
    Calls Tryd.prog 18 #[.pointer (some ⟨P, 0, none⟩), .int .u64 off, .int .u64 v, .int .i64 4] w fun e w' => e = .returned (.bool true) ∧ Box w' P 58 (plc s') ∧ Only P w w' := by
  have HR := Lib.hid (isReg_any h off 4)
  rw [hr] at HR
  have HB := Lib.hid h
  have HF := Lib.hid hf
  have HG := Lib.hid hg
  have hw : IntKind.u32.wrap (v : Int) = ((v % 4294967296 : Nat) : Int) := by show (v : Int) % 4294967296 = _; omega
  clear h hr hf hg hv
  generalize v % 4294967296 = vv at hw HG
  go_enter Tryd.func18, Tryd.ntmps18
  go_wp2_with (first
    | (go_at_call 35; refine HR.out.mono ?_; rintro e w' ⟨rfl, rfl⟩)
    | (go_at_call 36; refine (HF.out _).mono ?_; rintro e w2 ⟨rfl, hb2⟩; have T2 := Lib.hid hb2; clear hb2)
    | (refine wpList_store_box rfl 74 _ _ rfl w2.heap.size #[bnd rf P n, bnd wf P n] rfl rfl 74 #[.nilFunc, .nilFunc] (Box.made w2 74 _) (by kernel_rfl) rfl (by rw [← Array.all_toList]; rfl) ?_; intro w3 hb3 hbl3; have d1 := hb3.read 1; have T3 := Lib.hid (T2.out.trans (((Below.refl w2.heap.size w2).alloc (Nat.le_refl _) _).trans hbl3 |>.mono T2.out.size)); clear hb3 hbl3; simp only [List.getElem?_toArray, List.getElem?_cons_zero, List.getElem?_cons_succ] at d1))
  refine (HG.out _ (HB.out.over T3.out HB.out.inHeap)).mono ?_
  rintro e w4 ⟨rfl, h1, h2⟩
  have H4 := Lib.hid (And.intro h1 ((Only.ofBelow T3.out).trans h2))
  clear h1 h2
  go_wp2
  go_ret
  exact ⟨rfl, H4.out.1, H4.out.2⟩
theorem write_no (h : Box w P 58 (plc s)) (off v : Nat) (width : Int) (hr : isReg off width = false) : Calls Tryd.prog 18 #[.pointer (some ⟨P, 0, none⟩), .int .u64 off, .int .u64 v, .int .i64 width] w fun e w' => e = .returned (.bool false) ∧ w = w' := by
  have HR := Lib.hid (isReg_any h off width)
  rw [hr] at HR
  clear h hr
  go_enter Tryd.func18, Tryd.ntmps18
  go_wp2_with (go_at_call 35; refine HR.out.mono ?_; rintro e w' ⟨rfl, rfl⟩)
  go_ret
  exact ⟨rfl, rfl⟩
end
end Go.Proofs.YtlgefljbhbefgaaDoor
