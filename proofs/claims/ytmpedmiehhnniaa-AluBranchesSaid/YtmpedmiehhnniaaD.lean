/- What Do answers of the operations that the chapter's answers ask. -/
import Derived.Test.YtmpedmiehhnniaaC
import Derived.Laws.EntriesVeiled
namespace Go.Proofs.Ytmpedmiehhnniaa
open Go.RowKit

/-- What is known of the world behind the making of a table, two blocks of a pair ahead of it. -/
theorem behind {w w1 : World} {a b : Int} {T : Array MapEntry}
    (h : Book w1 ((w.alloc (.cells #[.int .u64 a, .int .u64 b] 74)).alloc (.cells #[.int .u64 a, .int .u64 b] 74)).heap.size T 5)
    (d : Below ((w.alloc (.cells #[.int .u64 a, .int .u64 b] 74)).alloc (.cells #[.int .u64 a, .int .u64 b] 74)).heap.size ((w.alloc (.cells #[.int .u64 a, .int .u64 b] 74)).alloc (.cells #[.int .u64 a, .int .u64 b] 74)) w1) :
    Book w1 (w.heap.size + 1 + 1) T 5 ∧ w1.cell? ⟨w.heap.size, 0, none⟩ = some (.int .u64 a) ∧ w1.cell? ⟨w.heap.size, 1, none⟩ = some (.int .u64 b) ∧ Below w.heap.size w w1 := by
  have b0 : Box (w.alloc (.cells #[.int .u64 a, .int .u64 b] 74)) w.heap.size 74 #[.int .u64 a, .int .u64 b] := Box.made _ _ _
  have b1 := (b0.more (.cells #[.int .u64 a, .int .u64 b] 74)).over d (by simp; omega)
  exact ⟨by simpa using h, b1.read 0, b1.read 1, (((Below.refl _ _).alloc (Nat.le_refl _) _).alloc (by simp) _).trans (d.mono (by simp; omega))⟩

set_option maxHeartbeats 1000000 in
theorem do_add (a b : Int) (w : World) :
    Calls Try.prog 31 #[.int .u8 31, .int .u64 a, .int .u64 b] w fun e w' => e = .returned (.tuple #[.int .u64 (IntKind.u64.wrap (a + b)), .bool true]) ∧ Below w.heap.size w w' := by
  go_enter Try.func31, Try.ntmps31
  go_wp2_with (first
    | (go_at_call 48
       refine (low_any 31 (by decide) (by decide) _).mono ?_
       rintro e w1 ⟨rfl, h1, d1⟩
       obtain ⟨g1, c0, c1, dd⟩ := behind h1 d1
       have hl : (Instr.lookup 77 (.map (some (w.heap.size + 1 + 1))) (.int .u8 31) false).run Try.prog w1 = .ok (.func (.func 61) #[] #[]) w1 := run_bookLook Try.underlying77 Try.underlying5 g1 31 0 (FN 61) (by kernel_rfl)
       have Hd := Lib.hid dd
       clear h1 d1 g1 dd)
    | go_in)
  go_ret2
  exact ⟨rfl, Hd.out.alloc Hd.out.size _⟩
end Go.Proofs.Ytmpedmiehhnniaa
