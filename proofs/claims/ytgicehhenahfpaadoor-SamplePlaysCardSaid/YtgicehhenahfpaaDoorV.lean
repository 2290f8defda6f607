/- Copy of the program. -/
import Derived.Test.YtgicehhenahfpaaDoorU
set_option linter.unusedVariables false
set_option linter.unusedSimpArgs false
namespace Go.Proofs.YtgicehhenahfpaaDoor
open Go.RowKit
attribute [local go_sem] Oper.semAt_some
/-- A channel's cells ahead of all. -/
def zch : Array Value := #[.bool false, .int .i64 0, .int .u32 0, .int .i64 0, .bool false, .int .u64 0, .string ⟨#[]⟩, .bool false, .bool false, .bool false, .bool false, .bool false, .bool false, .bool false, .bool false, .bool false, .bool false, .bool false, .bool false, .bool false, .bool false, .bool false, .bool false]
theorem alloc_zch (w : World) : (Instr.alloc 56 true (.tuple #[])).run Tryd.prog w = .ok (.pointer (some ⟨w.heap.size, 0, none⟩)) (w.alloc (.cells zch 56)) := by
  rw [zch]
  simp [Instr.alloc, go_sem]
theorem one_chan (m v n : Int) (has : Bool) (t : Int) (s : ByteArray) (F : Nat → Bool) : (chan m v n has t s F).all (·.oneCell') = true := by
  rw [← Array.all_toList]
  rfl
theorem size_chan (m v n : Int) (has : Bool) (t : Int) (s : ByteArray) (F : Nat → Bool) : (Tryd.prog.info? 56).map (·.size) = some (chan m v n has t s F).size := by kernel_rfl
section
variable {m v n t : Int} {has : Bool} {s : ByteArray} {F : Nat → Bool} {B C : Nat} {w : World}
set_option maxHeartbeats 1000000 in
theorem copy_any (hb : Box w B 56 (chan m v n has t s F)) : Calls Tryd.prog 9 #[.pointer (some ⟨B, 0, none⟩)] w fun e w' => e = .returned (.pointer (some ⟨w.heap.size, 0, none⟩)) ∧ Box w' w.heap.size 56 (chan m v n has t s F) ∧ Below w.heap.size w w' := by
  have HB := Lib.hid hb
  obtain ⟨w2, hw2⟩ : ∃ w2, w2 = (w.alloc (.cells zch 56)).setRow w.heap.size (chan m v n has t s F) := ⟨_, rfl⟩
  have hb2 : Box w2 w.heap.size 56 (chan m v n has t s F) := by rw [hw2]; exact (Box.made w 56 zch).row _
  have bl2 : Below w.heap.size w w2 := by rw [hw2]; exact ⟨rfl, rfl, rfl, by simp, fun k hk => (setRow_other _ _ k _ (by omega)).trans (Below.heap_alloc w _ k hk)⟩
  have HP := Lib.hid (And.intro hb2 bl2)
  clear hb2 bl2 hb
  go_enter Tryd.func9, Tryd.ntmps9
  go_wp2_with (first
    | (go_at_call 22; refine (isMade_any HB.out).mono ?_; rintro e w' ⟨rfl, rfl⟩)
    | (refine wpList_load_row rfl 56 _ rfl B rfl 56 (chan m v n has t s F) (0, 0) _ HB.out Tryd.underlying56 rfl rfl ?_)
    | (refine wpList_alloc_to rfl 56 rfl zch alloc_zch w.heap.size rfl ?_)
    | (refine wpList_store_row rfl 56 _ _ rfl w.heap.size (chan m v n has t s F) rfl rfl 56 zch (Box.made w 56 _) (size_chan m v n has t s F) rfl (one_chan m v n has t s F) ?_))
  rw [← hw2]
  go_ret
  exact ⟨rfl, HP.out.1, HP.out.2⟩
end
end Go.Proofs.YtgicehhenahfpaaDoor
