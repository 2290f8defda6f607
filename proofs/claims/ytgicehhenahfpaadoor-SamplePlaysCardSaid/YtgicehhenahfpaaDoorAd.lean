/- Reading both channels. -/
import Derived.Test.YtgicehhenahfpaaDoorAc
set_option linter.unusedVariables false
set_option linter.unusedSimpArgs false
namespace Go.Proofs.YtgicehhenahfpaaDoor
open Go.RowKit
section
variable {m v : Int} {n c B C H : Nat} {w : World} {o : Option (Nat × ByteArray × List Int)}
/-- What the program's Read answers. -/
def got (s : ByteArray) (age : Int) (sl : Bool) (z : Int) : Value := .tuple #[.agg #[.string s, .int .u64 age, .bool sl], .int .i64 z]
/-- Read of the program, then of the document. -/
theorem read_pair (h : Pr w C B H m v n c o) (hCH : C < H) (hn : n ≤ 16) (hc : c ≤ 1048576) (hv0 : 0 ≤ v) (hv1 : v ≤ 4294967295) (k : Int) (x : Nat) (hx : x < 18446744073709551616) :
    Calls Tryd.prog 20 #[.pointer (some ⟨C, 0, none⟩), .int .i64 k, .int .u64 x] w fun e w1 => ∃ s age sl z, e = .returned (got s age sl z) ∧ Only C w w1 ∧ Hid (∀ W, Below w1.heap.size w1 W →
      Calls Tryd.prog 24 #[.pointer (some ⟨B, 0, none⟩), .int .i64 k, .int .u64 x] W fun e w' => e = .returned (ans s age sl z) ∧ (∀ X cs', Box W X 51 cs' → Box w' X 51 cs') ∧ ∃ o', Pr w' C B H m v n (c + 1) o' ∧ Touch (Kp B H) W w') := by
  by_cases hk : k < 0 ∨ (n : Int) ≤ k
  · have hp : Calls Tryd.prog 20 #[.pointer (some ⟨C, 0, none⟩), .int .i64 k, .int .u64 x] w fun e w' => e = .returned (got ⟨#[]⟩ 0 false 2) ∧ Below w.heap.size w w' := by
      rcases o with _ | ⟨t0, s0, R0⟩ <;> exact read_out h.prog k hk x
    refine hp.mono ?_
    rintro e w1 ⟨rfl, hb1⟩
    refine ⟨_, _, _, _, rfl, Only.ofBelow hb1, Lib.hid fun W hW => ?_⟩
    have hP := (h.below hb1).below hW
    obtain ⟨sl, hb⟩ := hP.doc.cells
    refine (dread_out hb k hk x).mono ?_
    rintro e w' ⟨rfl, rfl⟩
    exact ⟨rfl, fun _ _ h => h, o, hP.mono (Nat.le_succ _), Touch.refl _ _⟩
  · obtain ⟨j, rfl⟩ : ∃ j : Nat, k = j := ⟨k.toNat, by omega⟩
    have hj : j < n := by omega
    rcases o with _ | ⟨t, s, R⟩
    · refine (read_none h.prog j (by omega) (by omega) x).mono ?_
      rintro e w1 ⟨rfl, hb1⟩
      refine ⟨_, _, _, _, rfl, Only.ofBelow hb1, Lib.hid fun W hW => ?_⟩
      have hP := (h.below hb1).below hW
      refine (dread_none hP.doc j (by omega) (by omega) x).mono ?_
      rintro e w' ⟨rfl, rfl⟩
      exact ⟨rfl, fun _ _ h => h, none, hP.mono (Nat.le_succ _), Touch.refl _ _⟩
    · refine (read_ok h.prog j (by omega) (by omega) x (by omega) (by omega) (by omega) hv0 hv1).mono ?_
      rintro e w1 ⟨rfl, h1, h2⟩
      refine ⟨_, _, _, _, rfl, h2, Lib.hid fun W hW => ?_⟩
      have h1' : Box w1 C 56 (chanO m v n (some (t, s, R ++ [(j : Int)]))) := by
        show Box w1 C 56 (chan m v n true t s (marks n (R ++ [(j : Int)])))
        rw [← chan_ext fun k _ => marks_read n R j k]
        exact h1
      have hd := (h.doc.only h2 h.prog).below hW
      have hH : H ≤ W.heap.size := Nat.le_trans h.hH (Nat.le_trans h2.size hW.size)
      obtain ⟨g, q, cap, xs, rv, hdl⟩ := hd
      have ho := h.ok
      refine (dread_ok hdl hH hc j (by omega) (by omega) (by omega) x hx ho.1 hv0 hv1).mono ?_
      rintro e w' ⟨rfl, h3, h4, h5⟩
      have hne := h.ne
      exact ⟨rfl, h5, _, ⟨(h1'.over hW h1'.inHeap).touch h4 (by rintro (e | e); exact hne e.symm; omega), h3, ho, Nat.le_trans hH h4.size⟩, h4⟩
end
end Go.Proofs.YtgicehhenahfpaaDoor
