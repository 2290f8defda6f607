/- What the library's TrailingZeros64 answers here: the kit's contract, laid at the dump; the table that it reads, as start-up laid it. -/
import Derived.Shelf.Spec.TrailingZeros
import Derived.Test.YtlgefljbhbefgaaDoorOf
import Derived.Lib.LaidTab
import Derived.LaidMore
import Derived.ProofKit
import Derived.OpenShut
import Derived.ShutString
import Derived.ChangeOld
import Derived.SevenTiedAt
set_option linter.unusedVariables false
set_option linter.unusedSimpArgs false
namespace Go.Proofs
open Go.Shelf
def Tryd.lays29_ren : Go.Shelf.Ren := ⟨fun | 29 => 63 | n => n, fun | 22 => 33 | 3 => 3 | 4 => 4 | 25 => 47 | 54 => 92 | 0 => 0 | 5 => 5 | n => n, fun | 1 => 2 | n => n⟩
theorem Tryd.lays29 : Go.Proofs.Lays7.n29 Tryd.prog Tryd.lays29_ren := {
  mixed := by kernel_rfl
  f29 := Tryd.func63.trans (congrArg some (by kernel_rfl))
  t0 := Tryd.underlying0
  a0 := Tryd.isAgg0
  z0 := Tryd.sizeOf0
  v0 := Tryd.zeroValue0
  i0 := by kernel_rfl
  t3 := Tryd.underlying3
  a3 := Tryd.isAgg3
  z3 := Tryd.sizeOf3
  v3 := Tryd.zeroValue3
  i3 := by kernel_rfl
  t4 := Tryd.underlying4
  a4 := Tryd.isAgg4
  z4 := Tryd.sizeOf4
  v4 := Tryd.zeroValue4
  i4 := by kernel_rfl
  t5 := Tryd.underlying5
  a5 := Tryd.isAgg5
  z5 := Tryd.sizeOf5
  v5 := Tryd.zeroValue5
  i5 := by kernel_rfl
  t22 := Tryd.underlying33
  a22 := Tryd.isAgg33
  z22 := Tryd.sizeOf33
  v22 := Tryd.zeroValue33
  i22 := by kernel_rfl
  t25 := Tryd.underlying47
  a25 := Tryd.isAgg47
  z25 := Tryd.sizeOf47
  v25 := Tryd.zeroValue47
  i25 := by kernel_rfl
  t54 := Tryd.underlying92
  a54 := Tryd.isAgg92
  z54 := Tryd.sizeOf92
  g1 := by kernel_rfl }
end Go.Proofs
namespace Go.Proofs.YtlgefljbhbefgaaDoor
open Go Go.RowKit
theorem laid_var {P : Program} {w : World} : ∀ {l : List (String × DataW Unit)} {ps : List MemPlace}, DataW.LaidVars P w l ps → ∀ {n : String} {d : DataW Unit}, (n, d) ∈ l →
    ∃ g t cs fuel p, P.globalNamed n = some g ∧ (P.globals[g]?).map (·.type) = some t ∧ w.var? P n = some cs ∧ DataW.trod (fun _ => ()) P w 0 (fun _ => true) false fuel t cs.toList = some (d, p)
  | [], _, _, n, d, h => by cases h
  | (m, x) :: r, ps, hl, n, d, h => by
    obtain ⟨g, t, cs, fuel, p, q, h1, h2, h3, h4, h5, _⟩ := hl
    rcases List.mem_cons.1 h with he | hm
    · cases he; exact ⟨g, t, cs, fuel, p, h1, h2, h3, h4⟩
    · exact laid_var h5 hm
theorem ints_of_trod {P : Program} {w : World} {fuel : Nat} {k : IntKind} {t el n : Nat} {ns : List Int} {cs : List Value} {p : List MemPlace} (ht : P.underlying t = some (.array n el)) (hel : P.underlying el = some (.int k)) (hc : P.cellsOf el = 1) (hct : P.cellsOf t = n)
    (h : DataW.trod (fun _ => ()) P w 0 (fun _ => true) false fuel t cs = some (.agg (ns.map fun z => .lit (.int k z)), p)) : cs = ns.map fun z => Value.int k z := by
  obtain ⟨xs, m, rfl, hx, hlen, hn, hel'⟩ := DataW.trod_array ht h
  simp only [Prod.mk.injEq, DataW.agg.injEq] at hx
  have hx1 := hx.1
  have hl : ns.length = n := by
    have := congrArg List.length hx1
    simpa [hn] using this
  rw [hct] at hlen
  apply List.ext_getElem?
  intro i
  by_cases hi : i < n
  · have h1 := hel' i hi
    rw [hc, Nat.mul_one] at h1
    have hxi : i < xs.length := by omega
    rw [List.getElem?_eq_getElem hxi] at h1
    obtain ⟨z, e1, e2, _⟩ := DataW.trod_int hel h1
    have hz : (ns.map fun z => (DataW.lit (.int k z) : DataW Unit))[i]? = (xs.map (·.1))[i]? := by rw [hx1]
    rw [List.getElem?_map, List.getElem?_map, List.getElem?_eq_getElem hxi, e2, List.getElem?_eq_getElem (show i < ns.length by omega)] at hz
    simp only [Option.map_some, Option.some.injEq, DataW.lit.injEq, Lit.int.injEq, true_and] at hz
    rw [List.getElem?_map, List.getElem?_eq_getElem (show i < ns.length by omega), hz]
    have h3 : ((cs.drop i).take 1)[0]? = some (.int k z) := by rw [e1]; rfl
    rw [List.getElem?_take, List.getElem?_drop] at h3
    simpa using h3
  · rw [List.getElem?_eq_none (by omega), List.getElem?_eq_none (by simp; omega)]
theorem tabIs_of_laid {P : Program} {w : World} {l : List (String × DataW Unit)} (h : laidMet P l w) {name : String} {g t el n : Nat} {k : IntKind} {ns : List Int}
    (hm : (name, DataW.agg (ns.map fun z => .lit (.int k z))) ∈ l) (hg : P.globalNamed name = some g) (hty : (P.globals[g]?).map (·.type) = some t) (ht : P.underlying t = some (.array n el)) (hel : P.underlying el = some (.int k)) (hc : P.cellsOf el = 1) (hct : P.cellsOf t = n) :
    Lib.TabIs P w name k ns := by
  obtain ⟨ps, hl, _⟩ := h
  obtain ⟨g', t', cs, fuel, p, h1, h2, h3, h4⟩ := laid_var hl hm
  rw [hg] at h1
  cases h1
  rw [hty] at h2
  cases h2
  have := ints_of_trod ht hel hc hct h4
  unfold Lib.TabIs
  rw [h3, ← this]
theorem tab_below {P : Program} {W w' : World} {name : String} {k : IntKind} {zs : List Int} (h : Lib.TabIs P W name k zs) (b : Below W.heap.size W w') : Lib.TabIs P w' name k zs := by
  unfold Lib.TabIs World.var? at *
  cases hg : P.globalNamed name with
  | none => rw [hg] at h; simp at h
  | some g =>
    rw [hg] at h
    simp only [Option.bind_some] at h ⊢
    split at h
    · rename_i c u f hh
      have hi : g < W.heap.size := (Array.getElem?_eq_some_iff.1 hh).1
      rw [b.block g hi, hh]
      exact h
    · cases h
theorem tz_of {W : World} (h : Lib.TabIs Tryd.prog W "math/bits.deBruijn64tab" .u8 (Lib.deBruijn64tab.map fun (n : Nat) => (n : Int))) : Tz16 W := fun w hb => by
  have h1 := tab_below h hb
  refine Any7.bits_TrailingZeros64 Tryd.lays29 16 (by decide) w fun _ j hj => ?_
  have hg : Tryd.lays29_ren.g 1 = 2 := rfl
  rw [hg]
  unfold Lib.TabIs World.var? at h1
  have hn : Tryd.prog.globalNamed "math/bits.deBruijn64tab" = some 2 := by kernel_rfl
  rw [hn, Option.bind_some] at h1
  unfold World.cell?
  split at h1
  · rename_i cs u f hh
    simp only [Option.some.injEq] at h1
    simp only [hh, h1]
    simp [List.getD_eq_getElem?_getD, List.getElem?_eq_getElem hj]
  · cases h1
end Go.Proofs.YtlgefljbhbefgaaDoor
