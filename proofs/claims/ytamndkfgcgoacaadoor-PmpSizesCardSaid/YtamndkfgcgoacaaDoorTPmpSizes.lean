/- PmpSizes: calls of the library that the kit's contracts answer; tables. -/
import Derived.Test.YtamndkfgcgoacaaDoorUf
set_option linter.unusedVariables false
set_option linter.unusedSimpArgs false
namespace Go.Proofs
open Go.Shelf
def Tryd.lays29_ren : Go.Shelf.Ren := ⟨fun | 29 => 19 | n => n, fun | 22 => 22 | 3 => 3 | 4 => 4 | 25 => 51 | 54 => 55 | 0 => 0 | 5 => 5 | n => n, fun | 1 => 0 | n => n⟩
theorem Tryd.lays29 : Go.Proofs.Lays7.n29 Tryd.prog Tryd.lays29_ren := {
  mixed := by kernel_rfl
  f29 := Tryd.func19.trans (congrArg some (by kernel_rfl))
  t0 := Tryd.underlying0
  a0 := Tryd.isAgg0
  z0 := Tryd.sizeOf0
  v0 := Tryd.zeroValue0
  i0 := by kernel_rfl
  t3 := Tryd.underlying3
  a3 := Tryd.isAgg3
  z3 := Tryd.sizeOf3
  v3 := Tryd.zeroValue3
  i3 := by kernel_rfl
  t4 := Tryd.underlying4
  a4 := Tryd.isAgg4
  z4 := Tryd.sizeOf4
  v4 := Tryd.zeroValue4
  i4 := by kernel_rfl
  t5 := Tryd.underlying5
  a5 := Tryd.isAgg5
  z5 := Tryd.sizeOf5
  v5 := Tryd.zeroValue5
  i5 := by kernel_rfl
  t22 := Tryd.underlying22
  a22 := Tryd.isAgg22
  z22 := Tryd.sizeOf22
  v22 := Tryd.zeroValue22
  i22 := by kernel_rfl
  t25 := Tryd.underlying51
  a25 := Tryd.isAgg51
  z25 := Tryd.sizeOf51
  v25 := Tryd.zeroValue51
  i25 := by kernel_rfl
  t54 := Tryd.underlying55
  a54 := Tryd.isAgg55
  z54 := Tryd.sizeOf55
  g1 := by kernel_rfl }
end Go.Proofs
namespace Go.Proofs.YtamndkfgcgoacaaDoor.Sx
open Go Go.RowKit
set_option maxRecDepth 100000
def tabs : List Tab := [{ g := 0, k := .u8, ns := [0, 1, 56, 2, 57, 49, 28, 3, 61, 58, 42, 50, 38, 29, 17, 4, 62, 47, 59, 36, 45, 43, 51, 22, 53, 39, 33, 30, 24, 18, 12, 5, 63, 55, 48, 27, 60, 41, 37, 16, 46, 35, 44, 21, 52, 32, 23, 11, 54, 26, 40, 15, 34, 20, 31, 10, 25, 14, 19, 9, 13, 8, 7, 6] }]
theorem tz_ns : ∀ j, j < Lib.deBruijn64tab.length → (tabs.head (by decide)).ns[j]? = some ((Lib.deBruijn64tab.getD j 0 : Nat) : Int) := by decide
theorem tz_is : TzIs Tryd.prog tabs 19 := fun x w hx ht => Any7.bits_TrailingZeros64 Tryd.lays29 x hx w fun _ => by
  have hm := ht (tabs.head (by decide)) (List.head_mem _)
  obtain ⟨cs, u, f, hc, hv⟩ := hm
  intro j hj
  have := hv j (.int .u8 ((Lib.deBruijn64tab.getD j 0 : Nat) : Int)) (by rw [List.getElem?_map, tz_ns j hj]; rfl)
  have hg : Tryd.lays29_ren.g 1 = (tabs.head (by decide)).g := by decide
  simp only [World.cell?]
  rw [hg, hc]
  simpa using this
def libTab : List (Nat × LibF) := [(19, .tz)]
theorem libTab_is : ∀ x ∈ libTab, x.2.is Tryd.prog tabs x.1 := by
  intro x hx
  simp only [libTab, List.mem_cons, List.not_mem_nil, or_false] at hx
  rcases hx with rfl
  · exact tz_is
noncomputable abbrev base0 : Ev := libEvT tabs libTab
theorem base0_ok : Snd Tryd.prog (tabGlob tabs) base0 := libEvT_ok libTab_is
def kept1 : List Kept := [{ fn := 9, args := [], val := .b (.lit 1) }]
theorem kept1_ok : keptOkT Tryd.prog tabs base0 300 30 kept1 = true := by kernel_rfl
theorem kept1_is : ∀ k ∈ kept1, k.isT Tryd.prog tabs := keptT_is base0_ok (by kernel_rfl) (by kernel_rfl) (by kernel_rfl) kept1_ok
noncomputable abbrev base1 : Ev := orEv (keptEvT tabs kept1) base0
theorem base1_ok : Snd Tryd.prog (tabGlob tabs) base1 := orEv_ok (keptEvT_ok kept1_is) base0_ok
noncomputable abbrev base : Ev := base1
theorem base_ok : Snd Tryd.prog (tabGlob tabs) base := base1_ok
end Go.Proofs.YtamndkfgcgoacaaDoor.Sx
