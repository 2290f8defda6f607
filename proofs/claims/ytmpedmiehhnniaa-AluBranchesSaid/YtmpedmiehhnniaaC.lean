/- The tables of operations, by name. -/
import Derived.Test.YtmpedmiehhnniaaB
namespace Go.Proofs.Ytmpedmiehhnniaa
open Go.RowKit

/-- A function as a value. -/
def FN (f : FuncId) : Value := .func (.func f) #[] #[]

/-- low's entries. -/
def lowT : Array MapEntry := #[⟨.int .u8 31, FN 61, 0⟩, ⟨.int .u8 32, FN 62, 1⟩, ⟨.int .u8 33, FN 63, 2⟩, ⟨.int .u8 34, FN 64, 3⟩, ⟨.int .u8 35, FN 65, 4⟩]

set_option maxHeartbeats 400000 in
theorem low_any (r : Int) (_g0 : 31 ≤ r) (g9 : r ≤ 35) (w : World) :
    Calls Try.prog 48 #[.int .u8 r] w fun e w' => e = .returned (.map (some w.heap.size)) ∧ Book w' w.heap.size lowT 5 ∧ Below w.heap.size w w' := by
  have hmm := @run_makeMap Try.prog
  have e0 : Below w.heap.size w (w.alloc (.map #[] 0)) := (Below.refl _ _).alloc (Nat.le_refl _) _
  have h0 := Book.made w
  go_enter Try.func48, Try.ntmps48
  go_wp2_with (first
    | (refine wpList_bookPut rfl _ _ _ 77 (.inr rfl) 5 _ .u8 Try.underlying77 Try.underlying5 w.heap.size 0 #[] 31 (FN 61) rfl rfl rfl ?_ (by kernel_rfl) ?_
       exact h0
       intro w1 h1 d1
       clear h0)
    | (refine wpList_bookPut rfl _ _ _ 77 (.inr rfl) 5 _ .u8 Try.underlying77 Try.underlying5 w.heap.size 1 #[⟨.int .u8 31, FN 61, 0⟩] 32 (FN 62) rfl rfl rfl ?_ (by kernel_rfl) ?_
       exact h1
       intro w2 h2 d2
       clear h1)
    | (refine wpList_bookPut rfl _ _ _ 77 (.inr rfl) 5 _ .u8 Try.underlying77 Try.underlying5 w.heap.size 2 #[⟨.int .u8 31, FN 61, 0⟩, ⟨.int .u8 32, FN 62, 1⟩] 33 (FN 63) rfl rfl rfl ?_ (by kernel_rfl) ?_
       exact h2
       intro w3 h3 d3
       clear h2)
    | (refine wpList_bookPut rfl _ _ _ 77 (.inr rfl) 5 _ .u8 Try.underlying77 Try.underlying5 w.heap.size 3 #[⟨.int .u8 31, FN 61, 0⟩, ⟨.int .u8 32, FN 62, 1⟩, ⟨.int .u8 33, FN 63, 2⟩] 34 (FN 64) rfl rfl rfl ?_ (by kernel_rfl) ?_
       exact h3
       intro w4 h4 d4
       clear h3)
    | (refine wpList_bookPut rfl _ _ _ 77 (.inr rfl) 5 _ .u8 Try.underlying77 Try.underlying5 w.heap.size 4 #[⟨.int .u8 31, FN 61, 0⟩, ⟨.int .u8 32, FN 62, 1⟩, ⟨.int .u8 33, FN 63, 2⟩, ⟨.int .u8 34, FN 64, 3⟩] 35 (FN 65) rfl rfl rfl ?_ (by kernel_rfl) ?_
       exact h4
       intro w5 h5 d5
       clear h4))
  go_ret
  exact ⟨rfl, h5, ((((e0.trans d1).trans d2).trans d3).trans d4).trans d5⟩

/-- bit's entries. -/
def bitT : Array MapEntry := #[⟨.int .u8 36, FN 66, 0⟩, ⟨.int .u8 37, FN 67, 1⟩, ⟨.int .u8 38, FN 68, 2⟩, ⟨.int .u8 39, FN 69, 3⟩, ⟨.int .u8 40, FN 70, 4⟩]

set_option maxHeartbeats 400000 in
theorem bit_any (r : Int) (g0 : 36 ≤ r) (g9 : r ≤ 40) (w : World) :
    Calls Try.prog 48 #[.int .u8 r] w fun e w' => e = .returned (.map (some w.heap.size)) ∧ Book w' w.heap.size bitT 5 ∧ Below w.heap.size w w' := by
  have hmm := @run_makeMap Try.prog
  have e0 : Below w.heap.size w (w.alloc (.map #[] 0)) := (Below.refl _ _).alloc (Nat.le_refl _) _
  have h0 := Book.made w
  go_enter Try.func48, Try.ntmps48
  go_wp2_with (first
    | (refine wpList_bookPut rfl _ _ _ 77 (.inr rfl) 5 _ .u8 Try.underlying77 Try.underlying5 w.heap.size 0 #[] 36 (FN 66) rfl rfl rfl ?_ (by kernel_rfl) ?_
       exact h0
       intro w1 h1 d1
       clear h0)
    | (refine wpList_bookPut rfl _ _ _ 77 (.inr rfl) 5 _ .u8 Try.underlying77 Try.underlying5 w.heap.size 1 #[⟨.int .u8 36, FN 66, 0⟩] 37 (FN 67) rfl rfl rfl ?_ (by kernel_rfl) ?_
       exact h1
       intro w2 h2 d2
       clear h1)
    | (refine wpList_bookPut rfl _ _ _ 77 (.inr rfl) 5 _ .u8 Try.underlying77 Try.underlying5 w.heap.size 2 #[⟨.int .u8 36, FN 66, 0⟩, ⟨.int .u8 37, FN 67, 1⟩] 38 (FN 68) rfl rfl rfl ?_ (by kernel_rfl) ?_
       exact h2
       intro w3 h3 d3
       clear h2)
    | (refine wpList_bookPut rfl _ _ _ 77 (.inr rfl) 5 _ .u8 Try.underlying77 Try.underlying5 w.heap.size 3 #[⟨.int .u8 36, FN 66, 0⟩, ⟨.int .u8 37, FN 67, 1⟩, ⟨.int .u8 38, FN 68, 2⟩] 39 (FN 69) rfl rfl rfl ?_ (by kernel_rfl) ?_
       exact h3
       intro w4 h4 d4
       clear h3)
    | (refine wpList_bookPut rfl _ _ _ 77 (.inr rfl) 5 _ .u8 Try.underlying77 Try.underlying5 w.heap.size 4 #[⟨.int .u8 36, FN 66, 0⟩, ⟨.int .u8 37, FN 67, 1⟩, ⟨.int .u8 38, FN 68, 2⟩, ⟨.int .u8 39, FN 69, 3⟩] 40 (FN 70) rfl rfl rfl ?_ (by kernel_rfl) ?_
       exact h4
       intro w5 h5 d5
       clear h4))
  go_ret
  exact ⟨rfl, h5, ((((e0.trans d1).trans d2).trans d3).trans d4).trans d5⟩

/-- word's entries. -/
def wordT : Array MapEntry := #[⟨.int .u8 45, FN 71, 0⟩, ⟨.int .u8 46, FN 72, 1⟩, ⟨.int .u8 47, FN 73, 2⟩, ⟨.int .u8 48, FN 74, 3⟩, ⟨.int .u8 49, FN 75, 4⟩]

set_option maxHeartbeats 400000 in
theorem word_any (r : Int) (g0 : 45 ≤ r) (g9 : r ≤ 49) (w : World) :
    Calls Try.prog 48 #[.int .u8 r] w fun e w' => e = .returned (.map (some w.heap.size)) ∧ Book w' w.heap.size wordT 5 ∧ Below w.heap.size w w' := by
  have hmm := @run_makeMap Try.prog
  have e0 : Below w.heap.size w (w.alloc (.map #[] 0)) := (Below.refl _ _).alloc (Nat.le_refl _) _
  have h0 := Book.made w
  go_enter Try.func48, Try.ntmps48
  go_wp2_with (first
    | (refine wpList_bookPut rfl _ _ _ 77 (.inr rfl) 5 _ .u8 Try.underlying77 Try.underlying5 w.heap.size 0 #[] 45 (FN 71) rfl rfl rfl ?_ (by kernel_rfl) ?_
       exact h0
       intro w1 h1 d1
       clear h0)
    | (refine wpList_bookPut rfl _ _ _ 77 (.inr rfl) 5 _ .u8 Try.underlying77 Try.underlying5 w.heap.size 1 #[⟨.int .u8 45, FN 71, 0⟩] 46 (FN 72) rfl rfl rfl ?_ (by kernel_rfl) ?_
       exact h1
       intro w2 h2 d2
       clear h1)
    | (refine wpList_bookPut rfl _ _ _ 77 (.inr rfl) 5 _ .u8 Try.underlying77 Try.underlying5 w.heap.size 2 #[⟨.int .u8 45, FN 71, 0⟩, ⟨.int .u8 46, FN 72, 1⟩] 47 (FN 73) rfl rfl rfl ?_ (by kernel_rfl) ?_
       exact h2
       intro w3 h3 d3
       clear h2)
    | (refine wpList_bookPut rfl _ _ _ 77 (.inr rfl) 5 _ .u8 Try.underlying77 Try.underlying5 w.heap.size 3 #[⟨.int .u8 45, FN 71, 0⟩, ⟨.int .u8 46, FN 72, 1⟩, ⟨.int .u8 47, FN 73, 2⟩] 48 (FN 74) rfl rfl rfl ?_ (by kernel_rfl) ?_
       exact h3
       intro w4 h4 d4
       clear h3)
    | (refine wpList_bookPut rfl _ _ _ 77 (.inr rfl) 5 _ .u8 Try.underlying77 Try.underlying5 w.heap.size 4 #[⟨.int .u8 45, FN 71, 0⟩, ⟨.int .u8 46, FN 72, 1⟩, ⟨.int .u8 47, FN 73, 2⟩, ⟨.int .u8 48, FN 74, 3⟩] 49 (FN 75) rfl rfl rfl ?_ (by kernel_rfl) ?_
       exact h4
       intro w5 h5 d5
       clear h4))
  go_ret
  exact ⟨rfl, h5, ((((e0.trans d1).trans d2).trans d3).trans d4).trans d5⟩

/-- prod's entries. -/
def prodT : Array MapEntry := #[⟨.int .u8 54, FN 76, 0⟩, ⟨.int .u8 55, FN 77, 1⟩, ⟨.int .u8 56, FN 78, 2⟩, ⟨.int .u8 57, FN 79, 3⟩, ⟨.int .u8 62, FN 80, 4⟩]

set_option maxHeartbeats 400000 in
theorem prod_any (r : Int) (g0 : 54 ≤ r) (g9 : r ≤ 66) (w : World) :
    Calls Try.prog 48 #[.int .u8 r] w fun e w' => e = .returned (.map (some w.heap.size)) ∧ Book w' w.heap.size prodT 5 ∧ Below w.heap.size w w' := by
  have hmm := @run_makeMap Try.prog
  have e0 : Below w.heap.size w (w.alloc (.map #[] 0)) := (Below.refl _ _).alloc (Nat.le_refl _) _
  have h0 := Book.made w
  go_enter Try.func48, Try.ntmps48
  go_wp2_with (first
    | (refine wpList_bookPut rfl _ _ _ 77 (.inr rfl) 5 _ .u8 Try.underlying77 Try.underlying5 w.heap.size 0 #[] 54 (FN 76) rfl rfl rfl ?_ (by kernel_rfl) ?_
       exact h0
       intro w1 h1 d1
       clear h0)
    | (refine wpList_bookPut rfl _ _ _ 77 (.inr rfl) 5 _ .u8 Try.underlying77 Try.underlying5 w.heap.size 1 #[⟨.int .u8 54, FN 76, 0⟩] 55 (FN 77) rfl rfl rfl ?_ (by kernel_rfl) ?_
       exact h1
       intro w2 h2 d2
       clear h1)
    | (refine wpList_bookPut rfl _ _ _ 77 (.inr rfl) 5 _ .u8 Try.underlying77 Try.underlying5 w.heap.size 2 #[⟨.int .u8 54, FN 76, 0⟩, ⟨.int .u8 55, FN 77, 1⟩] 56 (FN 78) rfl rfl rfl ?_ (by kernel_rfl) ?_
       exact h2
       intro w3 h3 d3
       clear h2)
    | (refine wpList_bookPut rfl _ _ _ 77 (.inr rfl) 5 _ .u8 Try.underlying77 Try.underlying5 w.heap.size 3 #[⟨.int .u8 54, FN 76, 0⟩, ⟨.int .u8 55, FN 77, 1⟩, ⟨.int .u8 56, FN 78, 2⟩] 57 (FN 79) rfl rfl rfl ?_ (by kernel_rfl) ?_
       exact h3
       intro w4 h4 d4
       clear h3)
    | (refine wpList_bookPut rfl _ _ _ 77 (.inr rfl) 5 _ .u8 Try.underlying77 Try.underlying5 w.heap.size 4 #[⟨.int .u8 54, FN 76, 0⟩, ⟨.int .u8 55, FN 77, 1⟩, ⟨.int .u8 56, FN 78, 2⟩, ⟨.int .u8 57, FN 79, 3⟩] 62 (FN 80) rfl rfl rfl ?_ (by kernel_rfl) ?_
       exact h4
       intro w5 h5 d5
       clear h4))
  go_ret
  exact ⟨rfl, h5, ((((e0.trans d1).trans d2).trans d3).trans d4).trans d5⟩

end Go.Proofs.Ytmpedmiehhnniaa
