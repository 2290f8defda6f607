/- Copy of the program's PLIC. -/
import Derived.Test.YtlgefljbhbefgaaDoorNa
import Derived.OneCell
set_option linter.unusedVariables false
set_option linter.unusedSimpArgs false
namespace Go.Proofs.YtlgefljbhbefgaaDoor
open Go.RowKit
attribute [local go_sem] Oper.semAt_some
/-- A PLIC's cells ahead of all. -/
def zpl : Array Value := #[.bool false, .int .u8 0, .bool false, .bool false, .bool false, .int .u8 0, .bool false, .bool false, .bool false, .int .u8 0, .bool false, .bool false, .bool false, .int .u8 0, .bool false, .bool false, .bool false, .int .u8 0, .bool false, .bool false, .bool false, .int .u8 0, .bool false, .bool false, .bool false, .int .u8 0, .bool false, .bool false, .bool false, .int .u8 0, .bool false, .bool false, .bool false, .int .u8 0, .int .u8 0, .int .u8 0, .int .u8 0]
theorem alloc_zpl (w : World) : (Instr.alloc 58 true (.tuple #[])).run Tryd.prog w = .ok (.pointer (some ⟨w.heap.size, 0, none⟩)) (w.alloc (.cells zpl 58)) := by
  rw [zpl]
  simp [Instr.alloc, go_sem]
theorem one_plc (s : PS) : (plc s).all (·.oneCell') = true := by
  rw [← Array.all_toList]
  rfl
theorem size_plc (s : PS) : (Tryd.prog.info? 58).map (·.size) = some (plc s).size := by kernel_rfl
theorem wpList_alloc_to {P : Program} {ops : Array Oper} {rest : List Oper} {o : Oper} {a : Act} {w : World} {Q : Exit → Act → World → Prop} (hg : o.guard = none) (t : TypeId) (ho : o.op = .alloc t)
    (cells : Array Value) (hc : ∀ w : World, (Instr.alloc t true (.tuple #[])).run P w = .ok (.pointer (some ⟨w.heap.size, 0, none⟩)) (w.alloc (.cells cells t)))
    (n : Nat) (hn : w.heap.size = n) (h : wpList P ops Q rest (a.put o.dst (.pointer (some ⟨n, 0, none⟩))) (w.alloc (.cells cells t))) : wpList P ops Q (o :: rest) a w :=
  wpList_plain hg fun _ hK => by
    subst hn
    unfold Oper.wp execOp
    simp only [ho, Sem.run_bind, Sem.run_pure, Result.andThen_ok, hc w]
    exact hK _ _ h
section
variable {w : World} {P : Nat} {s : PS}
set_option maxHeartbeats 1000000 in
theorem copy_any (hb : Box w P 58 (plc s)) : Calls Tryd.prog 9 #[.pointer (some ⟨P, 0, none⟩)] w fun e w' => e = .returned (.pointer (some ⟨w.heap.size, 0, none⟩)) ∧ Box w' w.heap.size 58 (plc s) ∧ Below w.heap.size w w' := by
  have HB := Lib.hid hb
  obtain ⟨w2, hw2⟩ : ∃ w2, w2 = (w.alloc (.cells zpl 58)).setRow w.heap.size (plc s) := ⟨_, rfl⟩
  have hb2 : Box w2 w.heap.size 58 (plc s) := by rw [hw2]; exact (Box.made w 58 zpl).row _
  have bl2 : Below w.heap.size w w2 := by rw [hw2]; exact ⟨rfl, rfl, rfl, by simp, fun k hk => (setRow_other _ _ k _ (by omega)).trans (Below.heap_alloc w _ k hk)⟩
  have HP := Lib.hid (And.intro hb2 bl2)
  clear hb2 bl2 hb
  go_enter Tryd.func9, Tryd.ntmps9
  go_wp2_with (first
    | (go_at_call 22; refine (isMade_any HB.out).mono ?_; rintro e w' ⟨rfl, rfl⟩)
    | (refine wpList_load_row rfl 58 _ rfl P rfl 58 (plc s) (0, 0) _ HB.out Tryd.underlying58 rfl rfl ?_)
    | (refine wpList_alloc_to rfl 58 rfl zpl alloc_zpl w.heap.size rfl ?_)
    | (refine wpList_store_row rfl 58 _ _ rfl w.heap.size (plc s) rfl rfl 58 zpl (Box.made w 58 _) (size_plc s) rfl (one_plc s) ?_))
  rw [← hw2]
  go_ret
  exact ⟨rfl, HP.out.1, HP.out.2⟩
end
end Go.Proofs.YtlgefljbhbefgaaDoor
