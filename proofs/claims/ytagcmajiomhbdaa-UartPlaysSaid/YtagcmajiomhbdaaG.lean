/- Rows of acts; HasPrefix; awake. -/
import Derived.Test.YtagcmajiomhbdaaE
import Derived.Test.YtagcmajiomhbdaaSv
set_option linter.unusedVariables false
set_option linter.unusedSimpArgs false
namespace Go.Proofs.Ytagcmajiomhbdaa
open Go.RowKit
def Yes (w : World) (e : Ending) (w' : World) : Prop := e = .returned (.bool true) ∧ Below w.heap.size w w'
set_option maxRecDepth 100000 in
theorem read_awake : Sx.yes (Sx.ev Try.prog Sx.noGlob Sx.noBase 300 30 [] 8 [] Sx.st00) = true := by kernel_rfl
theorem awake_any (w : World) : Calls Try.prog 8 #[] w (Yes w) :=
  Sx.calls_yes (Sx.noBase_ok _ _) (by kernel_rfl) (args := []) trivial read_awake (fun _ => 0) (fun _ => undef) w
/-- What is done. -/
structure Deed where
  k : Nat
  off : Nat
  v : Nat
  wd : Int
/-- A row of deeds that stands in memory. -/
def IsDeeds (w : World) (a : Option Addr) (len : Nat) (l : List Deed) : Prop :=
  l.length = len ∧ ∀ k (f : Deed), l[k]? = some f → ∃ b off, a = some ⟨b, off, none⟩ ∧ b < w.heap.size ∧ w.cell? ⟨b, off + 4 * k, none⟩ = some (.int .u8 f.k) ∧ w.cell? ⟨b, off + 4 * k + 1, none⟩ = some (.int .u64 f.off) ∧ w.cell? ⟨b, off + 4 * k + 2, none⟩ = some (.int .u64 f.v) ∧ w.cell? ⟨b, off + 4 * k + 3, none⟩ = some (.int .i64 f.wd) ∧ f.k < 256
theorem IsDeeds.later {w wx : World} {a : Option Addr} {len : Nat} {l : List Deed} (hf : IsDeeds w a len l) (bel : Below w.heap.size w wx) : IsDeeds wx a len l := ⟨hf.1, fun k f hk => by
  obtain ⟨b, off, rfl, hbb, c0, c1, c2, c3, hn⟩ := hf.2 k f hk
  exact ⟨b, off, rfl, Nat.lt_of_lt_of_le hbb bel.size, (bel.cell (by exact hbb)).trans c0, (bel.cell (by exact hbb)).trans c1, (bel.cell (by exact hbb)).trans c2, (bel.cell (by exact hbb)).trans c3, hn⟩⟩
theorem str_size (l : List UInt8) : (str l).size = l.length := by simp [str, ByteArray.size]
theorem str_app (a b : List UInt8) : str a ++ str b = str (a ++ b) := by
  apply ByteArray.ext
  simp [str, ByteArray.data_append]
theorem str_snoc (l : List UInt8) (c : UInt8) : str l ++ ⟨#[c]⟩ = str (l ++ [c]) := by
  apply ByteArray.ext
  simp [str, ByteArray.data_append]
theorem pre_any (b r : List UInt8) (hb : b.length + r.length ≤ 4611686018427387904) (w : World) : Calls Try.prog 35 #[.string (str (b ++ r)), .string (str b)] w fun e w' => e = .returned (.bool true) ∧ w = w' := by
  have h1 : ((str (b ++ r)).size : Int) = (b.length : Int) + r.length := by rw [str_size]; simp
  have h2 : ((str b).size : Int) = (b.length : Int) := by rw [str_size]
  have g1 : (0 : Int) ≤ (b.length : Int) := Int.natCast_nonneg _
  have g2 : (b.length : Int) ≤ (b.length : Int) + r.length := by omega
  have r1 : ∀ wx : World, (Instr.slice 9 (.string (str (b ++ r))) none (some (.int .i64 (b.length : Int))) none).run Try.prog wx = .ok (.string (str b)) wx := fun wx => by
    rw [run_slice_string_to_if (h := Try.underlying9), if_pos ⟨Int.natCast_nonneg _, by rw [h1]; exact g2⟩]
    congr 2
    apply ByteArray.ext
    simp [str, ByteArray.data_extract]
  go_enter Try.func35, Try.ntmps35
  go_wp2
  go_ret
  exact ⟨rfl, rfl⟩
theorem prefix_any (b r : List UInt8) (hb : b.length + r.length ≤ 4611686018427387904) (w : World) : Calls Try.prog 22 #[.string (str (b ++ r)), .string (str b)] w fun e w' => e = .returned (.bool true) ∧ w = w' := by
  have HP := Lib.hid (pre_any b r hb w)
  go_enter Try.func22, Try.ntmps22
  go_wp2_with (go_at_call 35; refine HP.out.mono ?_; rintro e w' ⟨rfl, rfl⟩)
  go_ret
  exact ⟨rfl, rfl⟩
theorem conv_one0 (c : Int) (W : World) : (convert 41 9 (.slice (some ⟨W.heap.size, 0, none⟩) 1 1)).run Try.prog (W.alloc (.cells #[.int .u8 c] 5)) = .ok (.string ⟨#[UInt8.ofNat c.toNat]⟩) (W.alloc (.cells #[.int .u8 c] 5)) := by
  have h := run_convert_bytes_arg (P := Try.prog) (W.alloc (.cells #[.int .u8 c] 5)) 41 5 Try.underlying41 Try.underlying5 W.heap.size 0 1 1 [c] rfl (fun i hi => by
    obtain rfl : i = 0 := by omega
    simp) 9 Try.underlying9
  rw [h]
  rfl
theorem conv_one (c : UInt8) (W : World) : (convert 41 9 (.slice (some ⟨W.heap.size, 0, none⟩) 1 1)).run Try.prog (W.alloc (.cells #[.int .u8 c.toNat] 5)) = .ok (.string ⟨#[c]⟩) (W.alloc (.cells #[.int .u8 c.toNat] 5)) := by
  have h := conv_one0 (c.toNat : Int) W
  simpa using h
end Go.Proofs.Ytagcmajiomhbdaa
