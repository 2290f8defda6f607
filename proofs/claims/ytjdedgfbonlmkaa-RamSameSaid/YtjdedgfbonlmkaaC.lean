/- A memory: New, Bytes, Put, Clear, Read. -/
import Derived.Test.YtjdedgfbonlmkaaB
set_option linter.unusedVariables false
set_option linter.unusedSimpArgs false
namespace Go.Proofs.Ytjdedgfbonlmkaa
open Go.RowKit
def str (l : List UInt8) : ByteArray := ⟨l.toArray⟩
theorem vals_ext (s : ByteArray) : ((s.extract 0 s.size).data.map fun b => Value.int .u8 b.toNat).toList = vals s.data.toList := by
  have e : s.extract 0 s.size = s := by
    apply ByteArray.ext
    rw [ByteArray.data_extract]
    exact Array.extract_size
  rw [e]
  simp [vals]
theorem dsz (x : ByteArray) : x.data.toList.length = x.size := by rw [Array.length_toList]; rfl
/-- A text laid into a memory. -/
def splice (l : List UInt8) (a : Nat) (s : List UInt8) : List UInt8 := l.take a ++ s ++ l.drop (a + s.length)
theorem splice_len {l s : List UInt8} {a : Nat} (h : a + s.length ≤ l.length) : (splice l a s).length = l.length := by simp [splice]; omega
theorem run_copy_text {P : Program} {w : World} (dT sT ty : TypeId) (elem : TypeId) (hu : P.underlying dT = some (.slice elem)) (i : TypeInfo) (hi : P.info? elem = some i) (hsz : i.size = 1)
    (g off dLen dCap : Nat) (x : ByteArray) (l : List UInt8) (t : TypeId) (hg : Box w g t (vals l).toArray) (hn : x.size ≤ dLen) (hfit : off + x.size ≤ l.length) :
    (Builtin.copy_ #[dT, sT] ty #[.slice (some ⟨g, off, none⟩) dLen dCap, .string x]).run P w = .ok (.int .i64 x.size) (w.setRow g (vals (splice l off x.data.toList)).toArray) := by
  have hxl : (vals x.data.toList).length = x.size := by rw [vals_len, dsz]
  have hst := run_storeCells_at P g off t (vals x.data.toList) 0 (vals l).toArray w hg (by rw [hxl]; simp [vals]; omega) (by intro v hv; simp [vals] at hv; obtain ⟨c, _, rfl⟩ := hv; rfl)
  simp only [Nat.add_zero] at hst
  have hrow : ((vals l).toArray.toList.take off ++ vals x.data.toList ++ (vals l).toArray.toList.drop (off + (vals x.data.toList).length)).toArray = (vals (splice l off x.data.toList)).toArray := by
    simp [vals, splice, List.map_take, List.map_drop]
  rw [hrow] at hst
  have hmin : Nat.min x.size dLen = x.size := Nat.min_eq_left hn
  have e := vals_ext x
  simp [Builtin.copy_, run_underlying hu, sizeOf, typeInfo, hi, hsz, Builtin.lenOf, Builtin.firstCells, hmin, Result.andThen] at e ⊢
  rw [e, List.take_of_length_le (by rw [hxl]; exact Nat.le_refl _)]
  simp [hst]
  rfl
theorem run_clear_row {P : Program} {w : World} (dT ty : TypeId) (hu : P.underlying dT = some (.slice 5)) (i : TypeInfo) (hi : P.info? 5 = some i) (hz : i.zero = some (.int .u8 0)) (hsz : i.size = 1)
    (g N : Nat) (hN : 0 < N) (l : List UInt8) (t : TypeId) (hg : Box w g t (vals l).toArray) (hl : l.length = N) :
    (Builtin.clear_ #[dT] ty #[.slice (some ⟨g, 0, none⟩) N N]).run P w = .ok (.tuple #[]) (w.setRow g (vals (List.replicate N 0)).toArray) := by
  have hzc : (Builtin.zeroCells #[.int .u8 0] N).toList = vals (List.replicate N 0) := by
    apply List.ext_getElem
    · simp [Builtin.zeroCells, vals]
    · intro j h1 h2
      simp [Builtin.zeroCells, vals, Nat.mod_one]
  have hst := run_storeCells_at P g 0 t (vals (List.replicate N 0)) 0 (vals l).toArray w hg (by simp [vals, hl]) (by intro v hv; simp [vals] at hv; obtain ⟨_, rfl⟩ := hv; rfl)
  have hrow : ((vals l).toArray.toList.take (0 + 0) ++ vals (List.replicate N 0) ++ (vals l).toArray.toList.drop (0 + 0 + (vals (List.replicate N 0)).length)).toArray = (vals (List.replicate N 0)).toArray := by
    simp [vals]
    rw [List.drop_of_length_le (by simp [hl])]
    simp
  rw [hrow] at hst
  obtain ⟨M, rfl⟩ : ∃ M, N = M + 1 := ⟨N - 1, by omega⟩
  simp [Builtin.clear_, run_underlying hu, zeroValue, typeInfo, hi, hz, Result.andThen, Value.cells, hzc, hst]
end Go.Proofs.Ytjdedgfbonlmkaa
