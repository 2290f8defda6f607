/- The document's Load: what it answers is what the program's answers. -/
import Derived.Test.YtnignbpgcopehaaRp
import Derived.Test.YtnignbpgcopehaaHq
set_option linter.unusedVariables false
set_option linter.unusedSimpArgs false
namespace Go.Proofs.Ytnignbpgcopehaa
open Go.RowKit
theorem own_shape1 {w : World} {base n : Nat} {e : TypeId} {v : Value} {xs : List Value} (h : w.ownsRow base e 1 v n xs) : ∃ a cap, v = .slice a n cap ∧ n ≤ cap ∧ (a = none → n = 0 ∧ cap = 0) ∧ (∀ b off x, a = some ⟨b, off, x⟩ → off = 0 ∧ x = none ∧ base ≤ b ∧ b < w.heap.size) := by
  rcases h.2 with ⟨rfl, rfl⟩ | ⟨g, cap, cur, rfl, hg, hh, hc, _⟩
  · exact ⟨none, 0, rfl, Nat.le_refl _, fun _ => ⟨rfl, rfl⟩, fun b off x e => by cases e⟩
  · refine ⟨some ⟨g, 0, none⟩, cap, rfl, hc, (fun e => by cases e), fun b off x e => ?_⟩
    cases e
    exact ⟨rfl, rfl, hg, (Array.getElem?_eq_some_iff.1 hh).1⟩
theorem strs_own {w : World} {base n cap : Nat} {a : Option Addr} {T : List ByteArray} (h : w.ownsRow base 9 1 (.slice a n cap) n (strs T)) (hn : T.length = n) : Strs w a T := fun j x hj => by
  have hjl : j < n := by have := (List.getElem?_eq_some_iff.1 hj).1; omega
  obtain ⟨a', cap', e, _, h0, h1⟩ := own_shape1 h
  cases e
  rcases a with _ | ⟨b, off, x'⟩
  · have := (h0 rfl).1; omega
  · obtain ⟨rfl, rfl, _, hb⟩ := h1 b off x' rfl
    refine ⟨b, 0, rfl, hb, ?_⟩
    rw [Nat.zero_add, World.ownsRow.cellAt h j (by omega)]
    unfold strs
    rw [List.getElem?_map, hj]
    rfl
theorem strs_snoc (T : List ByteArray) (x : ByteArray) : strs T ++ [.string x] = strs (T ++ [x]) := by simp [strs]
/-- How things stand behind some messages that were loaded. -/
structure Rd (w wr : World) (B d m : Nat) (Ms : List Sm) (v : Value) : Prop where
  box : Box wr B 56 #[v, .int .i64 d, .int .i64 m]
  own : wr.ownsRow (B + 1) 9 1 v Ms.length (strs (Ms.map (·.1)))
  bel : Below w.heap.size w wr
  hB : w.heap.size ≤ B
theorem Rd.queue {w wr : World} {B d m : Nat} {Ms : List Sm} {v : Value} (h : Rd w wr B d m Ms v) : ∃ a cap, Rq wr B d m (Ms.map (·.1)) a cap ∧ v = .slice a Ms.length cap := by
  obtain ⟨a, cap, rfl, hc, _, _⟩ := own_shape1 h.own
  have hl : (Ms.map (·.1)).length = Ms.length := by simp
  exact ⟨a, cap, ⟨box_eq h.box (by rw [hl]), strs_own h.own hl, by rw [hl]; exact hc⟩, rfl⟩
theorem rload_bad (d m : Nat) (h : ¬ (1 ≤ d ∧ d ≤ 16 ∧ 1 ≤ m ∧ m ≤ 64)) (s : ByteArray) (w : World) : Calls Try.prog 19 #[.int .u8 d, .int .u8 m, .string s] w fun e w' => e = .returned (.tuple #[.pointer none, .int .i64 2]) ∧ w = w' := by
  have HN := Lib.hid (rnew_bad d m h w)
  clear h
  go_enter Try.func19, Try.ntmps19
  go_wp2_with (go_at_call 8; refine HN.out.mono ?_; rintro e w1 ⟨rfl, rfl⟩)
  go_ret2
  exact ⟨rfl, rfl⟩
theorem load_bad (d m : Nat) (h : ¬ (1 ≤ d ∧ d ≤ 16 ∧ 1 ≤ m ∧ m ≤ 64)) (s : ByteArray) (w : World) : Calls Try.prog 18 #[.int .u8 d, .int .u8 m, .string s] w fun e w' => e = .returned (.tuple #[.pointer none, .int .i64 2]) ∧ w = w' := by
  have HN := Lib.hid (new_bad d m h w)
  clear h
  go_enter Try.func18, Try.ntmps18
  go_wp2_with (go_at_call 7; refine HN.out.mono ?_; rintro e w1 ⟨rfl, rfl⟩)
  go_ret2
  exact ⟨rfl, rfl⟩
theorem ix_at (y : ByteArray) (h : 0 < y.size) (wx : World) : (Instr.index 9 (.string y) (.int .i64 0)).run Try.prog wx = .ok (.int .u8 ((y[0]'h).toNat : Nat)) wx := by
  rw [run_index_string (h := Try.underlying9)]
  have h1 : (0 : Int) ≤ 0 ∧ (0 : Int) < (y.size : Int) := ⟨Int.le_refl _, by omega⟩
  rw [dif_pos h1]
  rfl
theorem sl_from (y : ByteArray) (n : Nat) (h : n ≤ y.size) (wx : World) : (Instr.slice 9 (.string y) (some (.int .i64 n)) none none).run Try.prog wx = .ok (.string (y.extract n y.size)) wx := by
  have h1 : (0 : Int) ≤ (n : Int) ∧ (n : Int) ≤ (y.size : Int) := ⟨by omega, by omega⟩
  rw [run_slice_string_from_if (h := Try.underlying9), if_pos h1]
  rfl
theorem sl_to (y : ByteArray) (n : Nat) (h : n ≤ y.size) (wx : World) : (Instr.slice 9 (.string y) none (some (.int .i64 n)) none).run Try.prog wx = .ok (.string (y.extract 0 n)) wx := by
  have h1 : (0 : Int) ≤ (n : Int) ∧ (n : Int) ≤ (y.size : Int) := ⟨by omega, by omega⟩
  rw [run_slice_string_to_if (h := Try.underlying9), if_pos h1]
  rfl
end Go.Proofs.Ytnignbpgcopehaa
