/- A memory: New, Bytes, Read; awake; rows of acts. -/
import Derived.Test.YtjdedgfbonlmkaaD
import Derived.Test.YtjdedgfbonlmkaaSv
import Derived.Laws.MakeOwn
import Derived.Laws.OwnMore
set_option linter.unusedVariables false
set_option linter.unusedSimpArgs false
namespace Go.Proofs.Ytjdedgfbonlmkaa
open Go.RowKit
def Yes (w : World) (e : Ending) (w' : World) : Prop := e = .returned (.bool true) ∧ Below w.heap.size w w'
set_option maxRecDepth 100000 in
theorem read_works : Sx.yes (Sx.ev Try.prog Sx.noGlob Sx.noBase 300 30 [] 10 [] Sx.st00) = true := by kernel_rfl
theorem works_any (w : World) : Calls Try.prog 10 #[] w (Yes w) :=
  Sx.calls_yes (Sx.noBase_ok _ _) (by kernel_rfl) (args := []) trivial read_works (fun _ => 0) (fun _ => undef) w
theorem made_vals (n : Nat) : madeCells #[Value.int .u8 0] n = (vals (List.replicate n 0)).toArray := by
  have h := toList_madeCells_one (.int .u8 0) n
  apply Array.ext'
  rw [h]
  simp [vals]
def oneBox (g N : Nat) : Array Value := #[.slice (some ⟨g, 0, none⟩) N N, .int .u64 0, .int .i64 0]
theorem new_one (w : World) : Calls Try.prog 8 #[.int .i64 1] w fun e w' => e = .returned (.pointer (some ⟨w.heap.size + 1, 0, none⟩)) ∧ Rm w' (w.heap.size + 1) w.heap.size 4096 0 0 (List.replicate 4096 0) ∧ Below w.heap.size w w' ∧ w'.heap.size = w.heap.size + 2 := by
  obtain ⟨i0, hi, iz0, iz1, iz2⟩ := info_parts info5
  have hmk := run_make (P := Try.prog) w 45 5 i0 (.int .u8 0) Try.underlying45 hi iz0 .i64 .i64 4096 4096 (by decide) (by decide) (by rw [iz2]; decide) (by decide)
  rw [iz1, Nat.mul_one, show (Value.int .u8 0).cells = #[.int .u8 0] from rfl, made_vals, show (4096 : Int).toNat = 4096 from rfl] at hmk
  generalize hM : List.replicate 4096 (0 : UInt8) = M at hmk
  have hMl : M.length = 4096 := by rw [← hM]; exact List.length_replicate
  have HM := Lib.hid hM
  clear hM
  have HP : Hid (Rm ((w.alloc (.cells (vals M).toArray 5)).alloc (.cells (oneBox w.heap.size 4096) 65)) (w.heap.size + 1) w.heap.size 4096 0 0 M ∧ Below w.heap.size w ((w.alloc (.cells (vals M).toArray 5)).alloc (.cells (oneBox w.heap.size 4096) 65)) ∧ ((w.alloc (.cells (vals M).toArray 5)).alloc (.cells (oneBox w.heap.size 4096) 65)).heap.size = w.heap.size + 2) := by
    have hz : (w.alloc (.cells (vals M).toArray 5)).heap.size = w.heap.size + 1 := by simp
    refine ⟨⟨?_, (Box.made w 5 _).more _, hMl, by omega, by omega, by omega⟩, ((Below.refl _ _).alloc (Nat.le_refl _) _).alloc (by simp) _, by simp⟩
    rw [← hz]
    exact Box.made _ 65 _
  go_enter Try.func8, Try.ntmps8
  go_wp2_with (refine wpList_build_to rfl 65 _ rfl (oneBox w.heap.size 4096) (by kernel_rfl) ?_)
  go_ret
  exact ⟨rfl, HP.out⟩
def BytesQ (w : World) (e : Ending) (w' : World) : Prop := ∃ s x, e = .returned (.tuple #[.string s, .int .i64 x]) ∧ w = w'
def ReadQ (w : World) (e : Ending) (w' : World) : Prop := ∃ (v : Int) (b : Bool), e = .returned (.tuple #[.int .u64 v, .bool b]) ∧ ∃ n, w' = w.drewN n
section
variable {w w' : World} {B g N at' wd : Nat} {l : List UInt8}
theorem run_slice_mem2 (h : Rm w B g N at' wd l) (a n : Nat) (ha : a + n ≤ N) (wx : World) : (Instr.slice 45 (.slice (some ⟨g, 0, none⟩) N N) (some (.int .u64 a)) (some (.int .u64 ((a : Int) + n))) none).run Try.prog wx = .ok (.slice (some (if N = a then (⟨g, 0, none⟩ : Addr) else ⟨g, a, none⟩)) n (N - a)) wx := by
  obtain ⟨i0, hi, iz0, iz1, iz2⟩ := info_parts info5
  have hN := h.top
  have h1 : (0 : Int) ≤ (a : Int) + n ∧ (a : Int) + n ≤ (N : Int) := by omega
  have h3 : ((a : Int) + n).toNat = a + n := by omega
  have h4 : (a : Int) ≤ ((a + n : Nat) : Int) := by omega
  have h5 : a + n - a = n := by omega
  simp [Instr.slice, Instr.sliceBounds, Instr.sliceBound, run_underlying Try.underlying45, sizeOf, typeInfo, hi, iz1, Result.andThen, h1, h3, h4, h5, go_sem]
  by_cases hc : N = a <;> simp [hc]
theorem conv_mem (h : Rm w B g N at' wd l) (a n : Nat) (ha : a + n ≤ N) : (convert 45 9 (.slice (some (if N = a then (⟨g, 0, none⟩ : Addr) else ⟨g, a, none⟩)) n (N - a))).run Try.prog w = .ok (.string (str ((l.drop a).take n))) w := by
  have hl := h.len
  have hlen : ((l.drop a).take n).length = n := by rw [List.length_take, List.length_drop]; exact Nat.min_eq_left (by omega)
  have hstr : strOfNums (((l.drop a).take n).map fun c => (c.toNat : Int)) = str ((l.drop a).take n) := by
    simp only [strOfNums, str, List.map_map]
    congr 2
    have : ((fun n : Int => UInt8.ofNat n.toNat) ∘ fun c : UInt8 => (c.toNat : Int)) = id := by
      funext c; simp
    rw [this, List.map_id]
  by_cases hc : N = a
  · have hn : n = 0 := by omega
    subst hn
    rw [if_pos hc, run_convert_bytes_arg (P := Try.prog) w 45 5 Try.underlying45 Try.underlying5 g 0 0 (N - a) [] rfl (fun i hi => by omega) 9 Try.underlying9]
    rfl
  · rw [if_neg hc, run_convert_bytes_arg (P := Try.prog) w 45 5 Try.underlying45 Try.underlying5 g a n (N - a) (((l.drop a).take n).map fun c => (c.toNat : Int)) (by rw [List.length_map]; exact hlen) (fun i hi => by
      rw [h.mem.read, vals_get (show a + i < l.length by omega)]
      have : ((l.drop a).take n)[i]? = some l[a + i] := by
        rw [List.getElem?_take, if_pos hi, List.getElem?_drop, List.getElem?_eq_getElem (by omega)]
      have h2 : (((l.drop a).take n).map fun c : UInt8 => (c.toNat : Int))[i]? = some (l[a + i].toNat : Int) := by rw [List.getElem?_map, this]; rfl
      rw [List.getD, h2]; rfl) 9 Try.underlying9, hstr]
theorem bytes_good (h : Rm w B g N at' wd l) (a n : Nat) (ha : a + n ≤ N) : Calls Try.prog 19 #[.pointer (some ⟨B, 0, none⟩), .int .u64 a, .int .u64 n] w fun e w' => e = .returned (.tuple #[.string (str ((l.drop a).take n)), .int .i64 0]) ∧ w = w' := by
  have c0 : w.cell? ⟨B, 0, none⟩ = some (.slice (some ⟨g, 0, none⟩) N N) := h.box.read 0
  have hN := h.top
  have HM := Lib.hid h
  have HT := Lib.hid (fun wx (hx : Rm wx B g N at' wd l) => there_any hx a n)
  rw [decide_eq_true ha] at HT
  have hs := run_slice_mem2 h a n ha
  have hc := conv_mem h a n ha
  generalize (if N = a then (⟨g, 0, none⟩ : Addr) else ⟨g, a, none⟩) = A at hs hc
  generalize N - a = cap at hs hc
  generalize str ((l.drop a).take n) = T at hc ⊢
  clear h
  go_enter Try.func19, Try.ntmps19
  go_wp2_with (first | (go_at_call 30; refine (made_any HM.out).mono ?_; rintro e w' ⟨rfl, rfl⟩) | (go_at_call 37; refine (HT.out _ HM.out).mono ?_; rintro e w' ⟨rfl, rfl⟩))
  go_ret2
  exact ⟨rfl, rfl⟩
theorem bytes_bad (h : Rm w B g N at' wd l) (a n : Nat) (ha : ¬ a + n ≤ N) : Calls Try.prog 19 #[.pointer (some ⟨B, 0, none⟩), .int .u64 a, .int .u64 n] w fun e w' => e = .returned (.tuple #[.string ⟨#[]⟩, .int .i64 6]) ∧ w = w' := by
  have HM := Lib.hid h
  have HT := Lib.hid (fun wx (hx : Rm wx B g N at' wd l) => there_any hx a n)
  rw [decide_eq_false ha] at HT
  clear h
  go_enter Try.func19, Try.ntmps19
  go_wp2_with (first | (go_at_call 30; refine (made_any HM.out).mono ?_; rintro e w' ⟨rfl, rfl⟩) | (go_at_call 37; refine (HT.out _ HM.out).mono ?_; rintro e w' ⟨rfl, rfl⟩))
  go_ret2
  exact ⟨rfl, rfl⟩
theorem bytes_any (h : Rm w B g N at' wd l) (a n : Nat) : Calls Try.prog 19 #[.pointer (some ⟨B, 0, none⟩), .int .u64 a, .int .u64 n] w (BytesQ w) := by
  by_cases ha : a + n ≤ N
  · exact (bytes_good h a n ha).mono fun e w' ⟨he, hw⟩ => ⟨_, _, he, hw⟩
  · exact (bytes_bad h a n ha).mono fun e w' ⟨he, hw⟩ => ⟨_, _, he, hw⟩
end
end Go.Proofs.Ytjdedgfbonlmkaa
