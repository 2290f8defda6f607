/- RamKeeps' body. -/
import Derived.Test.YtjdedgfbonlmkaaT
set_option linter.unusedVariables false
set_option linter.unusedSimpArgs false
namespace Go.Proofs.Ytjdedgfbonlmkaa
open Go.RowKit
theorem str_sz (l : List UInt8) : (str l).size = l.length := by simp [str, ByteArray.size]
theorem str_get (l : List UInt8) (i : Nat) (h : i < (str l).size) : ((str l)[i]'h).toNat = at8 l i := by
  have h2 : i < l.length := by rw [← str_sz]; exact h
  rw [at8, List.getD, List.getElem?_eq_getElem h2]
  rfl
theorem mask_eq (x k m M : Nat) (hx : x < 18446744073709551616) (hm : m = 2 ^ k - 1) (hM : M = 2 ^ k) (hml : m < 18446744073709551616 := by decide) : bits .and .u64 (x : Int) (m : Int) = ((x % M : Nat) : Int) := by
  rw [bits_and_u64_nat x m hx hml, hm, Nat.and_two_pow_sub_one_eq_mod, hM]
theorem reads_to {w wr : World} {P B g : Nat} {cs : Array Value} {l : List UInt8} (h : Kp w P cs B g l wr) (a n x : Nat) (X : Int) (hX : X = (x : Int)) (hn : n = 1 ∨ n = 2 ∨ n = 4 ∨ n = 8) (ha : a + n ≤ 4096) (hx : num l a n = x) : Calls Try.prog 25 #[.pointer (some ⟨B, 0, none⟩), .int .u64 a, .int .i64 n, .int .u64 X] wr fun e w' => e = .returned (.bool true) ∧ ∃ k, w' = wr.drewN k := by
  subst hX
  exact reads_kp h a n x hn ha hx
theorem str_cut (l : List UInt8) (i j : Nat) (h : j ≤ l.length) : (str l).extract i j = str ((l.drop i).take (j - i)) := by
  apply ByteArray.ext
  rw [ByteArray.data_extract]
  show l.toArray.extract i j = _
  simp [str, List.drop_take]
theorem run_slice_take (l : List UInt8) (a : Nat) (ha : a ≤ l.length) (wx : World) : (Instr.slice 9 (.string (str l)) none (some (.int .u64 a)) none).run Try.prog wx = .ok (.string (str (l.take a))) wx := by
  have h1 : (a : Int) ≤ ((str l).size : Int) := by rw [str_sz]; omega
  have h1n : a ≤ (str l).size := by rw [str_sz]; exact ha
  have h2 := str_cut l 0 a ha
  rw [List.drop_zero, Nat.sub_zero] at h2
  simp [Instr.slice, Instr.sliceBounds, Instr.sliceBound, run_underlying Try.underlying9, Result.andThen, h1, h1n, h2, go_sem]
theorem run_slice_drop (l : List UInt8) (a : Nat) (z : Int) (hz : z = (a : Int)) (ha : a ≤ l.length) (wx : World) : (Instr.slice 9 (.string (str l)) (some (.int .u64 z)) none none).run Try.prog wx = .ok (.string (str (l.drop a))) wx := by
  subst hz
  have h1 : (a : Int) ≤ ((str l).size : Int) := by rw [str_sz]; omega
  have h1n : a ≤ (str l).size := by rw [str_sz]; exact ha
  have h2 := str_cut l a (str l).size (by rw [str_sz]; exact Nat.le_refl _)
  rw [List.take_of_length_le (by rw [List.length_drop, str_sz]; exact Nat.le_refl _)] at h2
  simp [Instr.slice, Instr.sliceBounds, Instr.sliceBound, run_underlying Try.underlying9, Result.andThen, h1, h1n, h2, go_sem]
/-- What strings.Repeat answers. -/
def Rpt : Prop := ∀ (w : World) (c : Nat), c ≤ 4096 → Calls Try.prog 22 #[.string ⟨#[0]⟩, .int .i64 c] w fun e w' => e = .returned (.string (str (List.replicate c 0))) ∧ Below w.heap.size w w'
theorem str_cat (s : ByteArray) (l : List UInt8) : s ++ str l = str (s.data.toList ++ l) := by
  apply ByteArray.ext
  simp [str]
set_option maxHeartbeats 12800000 in
set_option maxRecDepth 200000 in
theorem keeps_long (s : ByteArray) (hs : 4096 < s.size) (a x o : Nat) (v : Int) (w : World) : Calls Try.prog 5 #[.string s, .agg #[.int .u64 a, .int .u64 x, .int .i64 v, .int .u64 o]] w (Yes w) := by
  go_enter Try.func5, Try.ntmps5
  go_wp2_with (first | (go_at_call 8; refine (new_kp w _).mono ?_; rintro e w1 ⟨rfl, hk⟩; have HK1 := Lib.hid hk.bel; clear hk) | (go_at_call 10; refine (works_any _).mono ?_; rintro e w' ⟨rfl, bel⟩))
  go_ret
  exact ⟨rfl, HK1.out.trans (bel.mono HK1.out.size)⟩
end Go.Proofs.Ytjdedgfbonlmkaa
