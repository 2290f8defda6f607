/- TrapFree: of all arguments, the law answers true. Every case is read by the reader, in every order that Go leaves open. -/
import Derived.Test.YtphiankhcbmgmaaMTrapFree
import Derived.Test.YtphiankhcbmgmaaSx
namespace Go.Proofs.Ytphiankhcbmgmaa
open Go.ChangeShapes Go.WideShapes Go.ChangeAt Go.RowKit

theorem Try.own : ownKnob Try.prog.godebug = none := by kernel_rfl
theorem Try.laidOut : laidOutB Try.prog = true := by kernel_rfl

theorem wf_u64 {z : Int} (h : (Lit.int .u64 z).wf = true) : 0 ≤ z ∧ z ≤ 18446744073709551615 := by
  simpa [Lit.wf, IntKind.min, IntKind.max, IntKind.signed, IntKind.bits] using h
theorem wf_u8 {z : Int} (h : (Lit.int .u8 z).wf = true) : 0 ≤ z ∧ z ≤ 255 := by
  simpa [Lit.wf, IntKind.min, IntKind.max, IntKind.signed, IntKind.bits] using h
theorem leaves_of0 {l : List Value} (h : Sx.Leaves [some .u64, some .u64, some .u64, some .u64, some .u64, some .u64, some .u64, some .u64, some .u64, some .u64, some .u64, some .u64, some .u64, some .u64, some .u64, some .u64, some .u64, some .u64, some .u64, some .u64, some .u64, some .u64, some .u64, some .u64, some .u64, some .u64, some .u64, some .u64, some .u64, some .u64, some .u64] l) : ∃ a0 a1 a2 a3 a4 a5 a6 a7 a8 a9 a10 a11 a12 a13 a14 a15 a16 a17 a18 a19 a20 a21 a22 a23 a24 a25 a26 a27 a28 a29 a30, l = [.int .u64 a0, .int .u64 a1, .int .u64 a2, .int .u64 a3, .int .u64 a4, .int .u64 a5, .int .u64 a6, .int .u64 a7, .int .u64 a8, .int .u64 a9, .int .u64 a10, .int .u64 a11, .int .u64 a12, .int .u64 a13, .int .u64 a14, .int .u64 a15, .int .u64 a16, .int .u64 a17, .int .u64 a18, .int .u64 a19, .int .u64 a20, .int .u64 a21, .int .u64 a22, .int .u64 a23, .int .u64 a24, .int .u64 a25, .int .u64 a26, .int .u64 a27, .int .u64 a28, .int .u64 a29, .int .u64 a30] ∧ (Lit.int .u64 a0).wf = true ∧ (Lit.int .u64 a1).wf = true ∧ (Lit.int .u64 a2).wf = true ∧ (Lit.int .u64 a3).wf = true ∧ (Lit.int .u64 a4).wf = true ∧ (Lit.int .u64 a5).wf = true ∧ (Lit.int .u64 a6).wf = true ∧ (Lit.int .u64 a7).wf = true ∧ (Lit.int .u64 a8).wf = true ∧ (Lit.int .u64 a9).wf = true ∧ (Lit.int .u64 a10).wf = true ∧ (Lit.int .u64 a11).wf = true ∧ (Lit.int .u64 a12).wf = true ∧ (Lit.int .u64 a13).wf = true ∧ (Lit.int .u64 a14).wf = true ∧ (Lit.int .u64 a15).wf = true ∧ (Lit.int .u64 a16).wf = true ∧ (Lit.int .u64 a17).wf = true ∧ (Lit.int .u64 a18).wf = true ∧ (Lit.int .u64 a19).wf = true ∧ (Lit.int .u64 a20).wf = true ∧ (Lit.int .u64 a21).wf = true ∧ (Lit.int .u64 a22).wf = true ∧ (Lit.int .u64 a23).wf = true ∧ (Lit.int .u64 a24).wf = true ∧ (Lit.int .u64 a25).wf = true ∧ (Lit.int .u64 a26).wf = true ∧ (Lit.int .u64 a27).wf = true ∧ (Lit.int .u64 a28).wf = true ∧ (Lit.int .u64 a29).wf = true ∧ (Lit.int .u64 a30).wf = true ∧ True := by
  obtain ⟨_, _, rfl, ⟨a0, rfl, za0⟩, _, _, rfl, ⟨a1, rfl, za1⟩, _, _, rfl, ⟨a2, rfl, za2⟩, _, _, rfl, ⟨a3, rfl, za3⟩, _, _, rfl, ⟨a4, rfl, za4⟩, _, _, rfl, ⟨a5, rfl, za5⟩, _, _, rfl, ⟨a6, rfl, za6⟩, _, _, rfl, ⟨a7, rfl, za7⟩, _, _, rfl, ⟨a8, rfl, za8⟩, _, _, rfl, ⟨a9, rfl, za9⟩, _, _, rfl, ⟨a10, rfl, za10⟩, _, _, rfl, ⟨a11, rfl, za11⟩, _, _, rfl, ⟨a12, rfl, za12⟩, _, _, rfl, ⟨a13, rfl, za13⟩, _, _, rfl, ⟨a14, rfl, za14⟩, _, _, rfl, ⟨a15, rfl, za15⟩, _, _, rfl, ⟨a16, rfl, za16⟩, _, _, rfl, ⟨a17, rfl, za17⟩, _, _, rfl, ⟨a18, rfl, za18⟩, _, _, rfl, ⟨a19, rfl, za19⟩, _, _, rfl, ⟨a20, rfl, za20⟩, _, _, rfl, ⟨a21, rfl, za21⟩, _, _, rfl, ⟨a22, rfl, za22⟩, _, _, rfl, ⟨a23, rfl, za23⟩, _, _, rfl, ⟨a24, rfl, za24⟩, _, _, rfl, ⟨a25, rfl, za25⟩, _, _, rfl, ⟨a26, rfl, za26⟩, _, _, rfl, ⟨a27, rfl, za27⟩, _, _, rfl, ⟨a28, rfl, za28⟩, _, _, rfl, ⟨a29, rfl, za29⟩, _, _, rfl, ⟨a30, rfl, za30⟩, rfl⟩ := h
  exact ⟨a0, a1, a2, a3, a4, a5, a6, a7, a8, a9, a10, a11, a12, a13, a14, a15, a16, a17, a18, a19, a20, a21, a22, a23, a24, a25, a26, a27, a28, a29, a30, rfl, za0, za1, za2, za3, za4, za5, za6, za7, za8, za9, za10, za11, za12, za13, za14, za15, za16, za17, za18, za19, za20, za21, za22, za23, za24, za25, za26, za27, za28, za29, za30, trivial⟩

/-- The numbers that stand open. -/
def envOf (a0 : Int) (a1 : Int) (a2 : Int) (a3 : Int) (a4 : Int) (a5 : Int) (a6 : Int) (a7 : Int) (a8 : Int) (a9 : Int) (a10 : Int) (a11 : Int) (a12 : Int) (a13 : Int) (a14 : Int) (a15 : Int) (a16 : Int) (a17 : Int) (a18 : Int) (a19 : Int) (a20 : Int) (a21 : Int) (a22 : Int) (a23 : Int) (a24 : Int) (a25 : Int) (a26 : Int) (a27 : Int) (a28 : Int) (a29 : Int) (a30 : Int) (a31 : Int) : Nat → Int := fun j => [a0, a1, a2, a3, a4, a5, a6, a7, a8, a9, a10, a11, a12, a13, a14, a15, a16, a17, a18, a19, a20, a21, a22, a23, a24, a25, a26, a27, a28, a29, a30, a31].getD j 0
theorem law_any (a0 : Int) (a1 : Int) (a2 : Int) (a3 : Int) (a4 : Int) (a5 : Int) (a6 : Int) (a7 : Int) (a8 : Int) (a9 : Int) (a10 : Int) (a11 : Int) (a12 : Int) (a13 : Int) (a14 : Int) (a15 : Int) (a16 : Int) (a17 : Int) (a18 : Int) (a19 : Int) (a20 : Int) (a21 : Int) (a22 : Int) (a23 : Int) (a24 : Int) (a25 : Int) (a26 : Int) (a27 : Int) (a28 : Int) (a29 : Int) (a30 : Int) (a31 : Int) (b0 : 0 ≤ a0 ∧ a0 ≤ 18446744073709551615) (b1 : 0 ≤ a1 ∧ a1 ≤ 18446744073709551615) (b2 : 0 ≤ a2 ∧ a2 ≤ 18446744073709551615) (b3 : 0 ≤ a3 ∧ a3 ≤ 18446744073709551615) (b4 : 0 ≤ a4 ∧ a4 ≤ 18446744073709551615) (b5 : 0 ≤ a5 ∧ a5 ≤ 18446744073709551615) (b6 : 0 ≤ a6 ∧ a6 ≤ 18446744073709551615) (b7 : 0 ≤ a7 ∧ a7 ≤ 18446744073709551615) (b8 : 0 ≤ a8 ∧ a8 ≤ 18446744073709551615) (b9 : 0 ≤ a9 ∧ a9 ≤ 18446744073709551615) (b10 : 0 ≤ a10 ∧ a10 ≤ 18446744073709551615) (b11 : 0 ≤ a11 ∧ a11 ≤ 18446744073709551615) (b12 : 0 ≤ a12 ∧ a12 ≤ 18446744073709551615) (b13 : 0 ≤ a13 ∧ a13 ≤ 18446744073709551615) (b14 : 0 ≤ a14 ∧ a14 ≤ 18446744073709551615) (b15 : 0 ≤ a15 ∧ a15 ≤ 18446744073709551615) (b16 : 0 ≤ a16 ∧ a16 ≤ 18446744073709551615) (b17 : 0 ≤ a17 ∧ a17 ≤ 18446744073709551615) (b18 : 0 ≤ a18 ∧ a18 ≤ 18446744073709551615) (b19 : 0 ≤ a19 ∧ a19 ≤ 18446744073709551615) (b20 : 0 ≤ a20 ∧ a20 ≤ 18446744073709551615) (b21 : 0 ≤ a21 ∧ a21 ≤ 18446744073709551615) (b22 : 0 ≤ a22 ∧ a22 ≤ 18446744073709551615) (b23 : 0 ≤ a23 ∧ a23 ≤ 18446744073709551615) (b24 : 0 ≤ a24 ∧ a24 ≤ 18446744073709551615) (b25 : 0 ≤ a25 ∧ a25 ≤ 18446744073709551615) (b26 : 0 ≤ a26 ∧ a26 ≤ 18446744073709551615) (b27 : 0 ≤ a27 ∧ a27 ≤ 18446744073709551615) (b28 : 0 ≤ a28 ∧ a28 ≤ 18446744073709551615) (b29 : 0 ≤ a29 ∧ a29 ≤ 18446744073709551615) (b30 : 0 ≤ a30 ∧ a30 ≤ 18446744073709551615) (b31 : 0 ≤ a31 ∧ a31 ≤ 255) (w : World) :
    Calls Try.prog 3 #[.agg #[.int .u64 a0, .int .u64 a1, .int .u64 a2, .int .u64 a3, .int .u64 a4, .int .u64 a5, .int .u64 a6, .int .u64 a7, .int .u64 a8, .int .u64 a9, .int .u64 a10, .int .u64 a11, .int .u64 a12, .int .u64 a13, .int .u64 a14, .int .u64 a15, .int .u64 a16, .int .u64 a17, .int .u64 a18, .int .u64 a19, .int .u64 a20, .int .u64 a21, .int .u64 a22, .int .u64 a23, .int .u64 a24, .int .u64 a25, .int .u64 a26, .int .u64 a27, .int .u64 a28, .int .u64 a29, .int .u64 a30], .int .u8 a31] w fun e w' => e = .returned (.bool true) ∧ Below w.heap.size w w' := by
  have c0 : max (0 : Int) (min 18446744073709551615 a0) = a0 := by omega
  have c1 : max (0 : Int) (min 18446744073709551615 a1) = a1 := by omega
  have c2 : max (0 : Int) (min 18446744073709551615 a2) = a2 := by omega
  have c3 : max (0 : Int) (min 18446744073709551615 a3) = a3 := by omega
  have c4 : max (0 : Int) (min 18446744073709551615 a4) = a4 := by omega
  have c5 : max (0 : Int) (min 18446744073709551615 a5) = a5 := by omega
  have c6 : max (0 : Int) (min 18446744073709551615 a6) = a6 := by omega
  have c7 : max (0 : Int) (min 18446744073709551615 a7) = a7 := by omega
  have c8 : max (0 : Int) (min 18446744073709551615 a8) = a8 := by omega
  have c9 : max (0 : Int) (min 18446744073709551615 a9) = a9 := by omega
  have c10 : max (0 : Int) (min 18446744073709551615 a10) = a10 := by omega
  have c11 : max (0 : Int) (min 18446744073709551615 a11) = a11 := by omega
  have c12 : max (0 : Int) (min 18446744073709551615 a12) = a12 := by omega
  have c13 : max (0 : Int) (min 18446744073709551615 a13) = a13 := by omega
  have c14 : max (0 : Int) (min 18446744073709551615 a14) = a14 := by omega
  have c15 : max (0 : Int) (min 18446744073709551615 a15) = a15 := by omega
  have c16 : max (0 : Int) (min 18446744073709551615 a16) = a16 := by omega
  have c17 : max (0 : Int) (min 18446744073709551615 a17) = a17 := by omega
  have c18 : max (0 : Int) (min 18446744073709551615 a18) = a18 := by omega
  have c19 : max (0 : Int) (min 18446744073709551615 a19) = a19 := by omega
  have c20 : max (0 : Int) (min 18446744073709551615 a20) = a20 := by omega
  have c21 : max (0 : Int) (min 18446744073709551615 a21) = a21 := by omega
  have c22 : max (0 : Int) (min 18446744073709551615 a22) = a22 := by omega
  have c23 : max (0 : Int) (min 18446744073709551615 a23) = a23 := by omega
  have c24 : max (0 : Int) (min 18446744073709551615 a24) = a24 := by omega
  have c25 : max (0 : Int) (min 18446744073709551615 a25) = a25 := by omega
  have c26 : max (0 : Int) (min 18446744073709551615 a26) = a26 := by omega
  have c27 : max (0 : Int) (min 18446744073709551615 a27) = a27 := by omega
  have c28 : max (0 : Int) (min 18446744073709551615 a28) = a28 := by omega
  have c29 : max (0 : Int) (min 18446744073709551615 a29) = a29 := by omega
  have c30 : max (0 : Int) (min 18446744073709551615 a30) = a30 := by omega
  have c31 : max (0 : Int) (min 255 a31) = a31 := by omega
  have ha : (Sx.V.denL (Sx.env0 (envOf a0 a1 a2 a3 a4 a5 a6 a7 a8 a9 a10 a11 a12 a13 a14 a15 a16 a17 a18 a19 a20 a21 a22 a23 a24 a25 a26 a27 a28 a29 a30 a31) fun _ => undef) Sx.args0).toArray = #[.agg #[.int .u64 a0, .int .u64 a1, .int .u64 a2, .int .u64 a3, .int .u64 a4, .int .u64 a5, .int .u64 a6, .int .u64 a7, .int .u64 a8, .int .u64 a9, .int .u64 a10, .int .u64 a11, .int .u64 a12, .int .u64 a13, .int .u64 a14, .int .u64 a15, .int .u64 a16, .int .u64 a17, .int .u64 a18, .int .u64 a19, .int .u64 a20, .int .u64 a21, .int .u64 a22, .int .u64 a23, .int .u64 a24, .int .u64 a25, .int .u64 a26, .int .u64 a27, .int .u64 a28, .int .u64 a29, .int .u64 a30], .int .u8 a31] := by
    · show (#[.agg #[.int .u64 (max (0) (min 18446744073709551615 a0)), .int .u64 (max (0) (min 18446744073709551615 a1)), .int .u64 (max (0) (min 18446744073709551615 a2)), .int .u64 (max (0) (min 18446744073709551615 a3)), .int .u64 (max (0) (min 18446744073709551615 a4)), .int .u64 (max (0) (min 18446744073709551615 a5)), .int .u64 (max (0) (min 18446744073709551615 a6)), .int .u64 (max (0) (min 18446744073709551615 a7)), .int .u64 (max (0) (min 18446744073709551615 a8)), .int .u64 (max (0) (min 18446744073709551615 a9)), .int .u64 (max (0) (min 18446744073709551615 a10)), .int .u64 (max (0) (min 18446744073709551615 a11)), .int .u64 (max (0) (min 18446744073709551615 a12)), .int .u64 (max (0) (min 18446744073709551615 a13)), .int .u64 (max (0) (min 18446744073709551615 a14)), .int .u64 (max (0) (min 18446744073709551615 a15)), .int .u64 (max (0) (min 18446744073709551615 a16)), .int .u64 (max (0) (min 18446744073709551615 a17)), .int .u64 (max (0) (min 18446744073709551615 a18)), .int .u64 (max (0) (min 18446744073709551615 a19)), .int .u64 (max (0) (min 18446744073709551615 a20)), .int .u64 (max (0) (min 18446744073709551615 a21)), .int .u64 (max (0) (min 18446744073709551615 a22)), .int .u64 (max (0) (min 18446744073709551615 a23)), .int .u64 (max (0) (min 18446744073709551615 a24)), .int .u64 (max (0) (min 18446744073709551615 a25)), .int .u64 (max (0) (min 18446744073709551615 a26)), .int .u64 (max (0) (min 18446744073709551615 a27)), .int .u64 (max (0) (min 18446744073709551615 a28)), .int .u64 (max (0) (min 18446744073709551615 a29)), .int .u64 (max (0) (min 18446744073709551615 a30))], .int .u8 (max (0) (min 255 a31))] : Array Value) = _
      simp only [c0, c1, c2, c3, c4, c5, c6, c7, c8, c9, c10, c11, c12, c13, c14, c15, c16, c17, c18, c19, c20, c21, c22, c23, c24, c25, c26, c27, c28, c29, c30, c31]
  have hok : Sx.V.okL .nil Sx.args0 := by simp [Sx.args0, Sx.V.okL, Sx.V.ok]
  have go : ∀ (c : Sx.Pc) (ar : List Sx.V), ar = Sx.args0 → Sx.yes (Sx.ev Try.prog Sx.noGlob Sx.base 80 16 3 ar (Sx.stPc c)) = true → Sx.Holds (envOf a0 a1 a2 a3 a4 a5 a6 a7 a8 a9 a10 a11 a12 a13 a14 a15 a16 a17 a18 a19 a20 a21 a22 a23 a24 a25 a26 a27 a28 a29 a30 a31) c →
      Calls Try.prog 3 #[.agg #[.int .u64 a0, .int .u64 a1, .int .u64 a2, .int .u64 a3, .int .u64 a4, .int .u64 a5, .int .u64 a6, .int .u64 a7, .int .u64 a8, .int .u64 a9, .int .u64 a10, .int .u64 a11, .int .u64 a12, .int .u64 a13, .int .u64 a14, .int .u64 a15, .int .u64 a16, .int .u64 a17, .int .u64 a18, .int .u64 a19, .int .u64 a20, .int .u64 a21, .int .u64 a22, .int .u64 a23, .int .u64 a24, .int .u64 a25, .int .u64 a26, .int .u64 a27, .int .u64 a28, .int .u64 a29, .int .u64 a30], .int .u8 a31] w fun e w' => e = .returned (.bool true) ∧ Below w.heap.size w w' := fun c ar har hy hh => by
    subst har
    have := Sx.calls_yes_pc Sx.base_ok (by kernel_rfl) (args := Sx.args0) hok hy (envOf a0 a1 a2 a3 a4 a5 a6 a7 a8 a9 a10 a11 a12 a13 a14 a15 a16 a17 a18 a19 a20 a21 a22 a23 a24 a25 a26 a27 a28 a29 a30 a31) (fun _ => undef) hh w
    rwa [ha] at this
  obtain ⟨n, hn, hn6⟩ := Sx.rem_u8 (envOf a0 a1 a2 a3 a4 a5 a6 a7 a8 a9 a10 a11 a12 a13 a14 a15 a16 a17 a18 a19 a20 a21 a22 a23 a24 a25 a26 a27 a28 a29 a30 a31)
  rcases (show n = 0 ∨ n = 1 ∨ n = 2 ∨ n = 3 ∨ n = 4 ∨ n = 5 by omega) with h | h | h | h | h | h
  · rcases Sx.free0_ok (envOf a0 a1 a2 a3 a4 a5 a6 a7 a8 a9 a10 a11 a12 a13 a14 a15 a16 a17 a18 a19 a20 a21 a22 a23 a24 a25 a26 a27 a28 a29 a30 a31) (by rw [hn, h]; rfl) with h | h | h | h | h | h | h | h
    · exact go Sx.case0 Sx.args0 rfl Sx.read_case0 h
    · exact go Sx.case1 Sx.args1 rfl Sx.read_case1 h
    · exact go Sx.case2 Sx.args2 rfl Sx.read_case2 h
    · exact go Sx.case3 Sx.args3 rfl Sx.read_case3 h
    · exact go Sx.case4 Sx.args4 rfl Sx.read_case4 h
    · exact go Sx.case5 Sx.args5 rfl Sx.read_case5 h
    · exact go Sx.case6 Sx.args6 rfl Sx.read_case6 h
    · exact go Sx.case7 Sx.args7 rfl Sx.read_case7 h
  · rcases Sx.free1_ok (envOf a0 a1 a2 a3 a4 a5 a6 a7 a8 a9 a10 a11 a12 a13 a14 a15 a16 a17 a18 a19 a20 a21 a22 a23 a24 a25 a26 a27 a28 a29 a30 a31) (by rw [hn, h]; rfl) with h | h | h | h | h | h | h | h
    · exact go Sx.case8 Sx.args8 rfl Sx.read_case8 h
    · exact go Sx.case9 Sx.args9 rfl Sx.read_case9 h
    · exact go Sx.case10 Sx.args10 rfl Sx.read_case10 h
    · exact go Sx.case11 Sx.args11 rfl Sx.read_case11 h
    · exact go Sx.case12 Sx.args12 rfl Sx.read_case12 h
    · exact go Sx.case13 Sx.args13 rfl Sx.read_case13 h
    · exact go Sx.case14 Sx.args14 rfl Sx.read_case14 h
    · exact go Sx.case15 Sx.args15 rfl Sx.read_case15 h
  · rcases Sx.free2_ok (envOf a0 a1 a2 a3 a4 a5 a6 a7 a8 a9 a10 a11 a12 a13 a14 a15 a16 a17 a18 a19 a20 a21 a22 a23 a24 a25 a26 a27 a28 a29 a30 a31) (by rw [hn, h]; rfl) with h | h | h | h | h | h | h | h
    · exact go Sx.case16 Sx.args16 rfl Sx.read_case16 h
    · exact go Sx.case17 Sx.args17 rfl Sx.read_case17 h
    · exact go Sx.case18 Sx.args18 rfl Sx.read_case18 h
    · exact go Sx.case19 Sx.args19 rfl Sx.read_case19 h
    · exact go Sx.case20 Sx.args20 rfl Sx.read_case20 h
    · exact go Sx.case21 Sx.args21 rfl Sx.read_case21 h
    · exact go Sx.case22 Sx.args22 rfl Sx.read_case22 h
    · exact go Sx.case23 Sx.args23 rfl Sx.read_case23 h
  · rcases Sx.free3_ok (envOf a0 a1 a2 a3 a4 a5 a6 a7 a8 a9 a10 a11 a12 a13 a14 a15 a16 a17 a18 a19 a20 a21 a22 a23 a24 a25 a26 a27 a28 a29 a30 a31) (by rw [hn, h]; rfl) with h | h | h | h | h | h | h | h
    · exact go Sx.case24 Sx.args24 rfl Sx.read_case24 h
    · exact go Sx.case25 Sx.args25 rfl Sx.read_case25 h
    · exact go Sx.case26 Sx.args26 rfl Sx.read_case26 h
    · exact go Sx.case27 Sx.args27 rfl Sx.read_case27 h
    · exact go Sx.case28 Sx.args28 rfl Sx.read_case28 h
    · exact go Sx.case29 Sx.args29 rfl Sx.read_case29 h
    · exact go Sx.case30 Sx.args30 rfl Sx.read_case30 h
    · exact go Sx.case31 Sx.args31 rfl Sx.read_case31 h
  · rcases Sx.free4_ok (envOf a0 a1 a2 a3 a4 a5 a6 a7 a8 a9 a10 a11 a12 a13 a14 a15 a16 a17 a18 a19 a20 a21 a22 a23 a24 a25 a26 a27 a28 a29 a30 a31) (by rw [hn, h]; rfl) with h | h | h | h | h | h | h | h
    · exact go Sx.case32 Sx.args32 rfl Sx.read_case32 h
    · exact go Sx.case33 Sx.args33 rfl Sx.read_case33 h
    · exact go Sx.case34 Sx.args34 rfl Sx.read_case34 h
    · exact go Sx.case35 Sx.args35 rfl Sx.read_case35 h
    · exact go Sx.case36 Sx.args36 rfl Sx.read_case36 h
    · exact go Sx.case37 Sx.args37 rfl Sx.read_case37 h
    · exact go Sx.case38 Sx.args38 rfl Sx.read_case38 h
    · exact go Sx.case39 Sx.args39 rfl Sx.read_case39 h
  · rcases Sx.free5_ok (envOf a0 a1 a2 a3 a4 a5 a6 a7 a8 a9 a10 a11 a12 a13 a14 a15 a16 a17 a18 a19 a20 a21 a22 a23 a24 a25 a26 a27 a28 a29 a30 a31) (by rw [hn, h]; rfl) with h | h | h | h | h | h | h | h
    · exact go Sx.case40 Sx.args40 rfl Sx.read_case40 h
    · exact go Sx.case41 Sx.args41 rfl Sx.read_case41 h
    · exact go Sx.case42 Sx.args42 rfl Sx.read_case42 h
    · exact go Sx.case43 Sx.args43 rfl Sx.read_case43 h
    · exact go Sx.case44 Sx.args44 rfl Sx.read_case44 h
    · exact go Sx.case45 Sx.args45 rfl Sx.read_case45 h
    · exact go Sx.case46 Sx.args46 rfl Sx.read_case46 h
    · exact go Sx.case47 Sx.args47 rfl Sx.read_case47 h


set_option maxRecDepth 100000 in
theorem law_lifted (os : Os) (started : os.Started) (H : Type) (enc : TypeId × Value → H) :
    ReturnsInHanded {} Try.checked os 3 .any (Rows.trapFreeSpec.pre6 enc Try.prog Try.f3 Rows.trapFreeRow.domain false) (Rows.trapFreeSpec.post enc Try.prog Try.f3 false true false false) := by
  refine returnsInHanded_of_change (C := Try.checked) Try.own started (by kernel_rfl) Try.func3
    (ChangeSpec.witness6 (enc := enc) (C := Try.checked) false ⟨#[], #[.agg #[.int .u64 0, .int .u64 0, .int .u64 0, .int .u64 0, .int .u64 0, .int .u64 0, .int .u64 0, .int .u64 0, .int .u64 0, .int .u64 0, .int .u64 0, .int .u64 0, .int .u64 0, .int .u64 0, .int .u64 0, .int .u64 0, .int .u64 0, .int .u64 0, .int .u64 0, .int .u64 0, .int .u64 0, .int .u64 0, .int .u64 0, .int .u64 0, .int .u64 0, .int .u64 0, .int .u64 0, .int .u64 0, .int .u64 0, .int .u64 0, .int .u64 0], .int .u8 0], []⟩ 8 (by kernel_rfl) (by kernel_rfl) (by kernel_rfl) (by kernel_rfl)) ?_
  intro W base args ds gs before hval0 hW hcnd _
  have hval : ∀ (j : Nat) t v, Try.f3.params[j]? = some t → args[j]? = some v → Value.okWide Try.prog W .any base t v := hval0
  have hW' := hW
  obtain ⟨p, q, hA0, hV, rfl, hfz, hnd⟩ := hW
  have hA : DataW.TrodAll enc Try.prog W 0 (fun _ => true) true Try.f3.params.toList args.toList ds p := hA0
  rw [Try.params3] at hA hval
  obtain ⟨v0, vs0, d0, ds0, p0, q0, hargs, rfl, rfl, h0, r0⟩ := trodAll_cons hA
  obtain ⟨v1, vs1, d1, ds1, p1, q1, rfl, rfl, rfl, h1, r1⟩ := trodAll_cons r0
  obtain ⟨rfl, rfl, rfl⟩ := trodAll_nil r1
  obtain rfl : args = #[v0, v1] := by cases args; simp_all
  obtain ⟨rfl, rfl⟩ := trodVars_none hV
  have k0 := h0
  have k1 := h1
  have lt0 : ∀ x ∈ p0, x.block < W.heap.size := by obtain ⟨m, hm⟩ := h0; exact DataW.trod_lt m _ _ _ hm
  have lt1 : ∀ x ∈ p1, x.block < W.heap.size := by obtain ⟨m, hm⟩ := h1; exact DataW.trod_lt m _ _ _ hm
  obtain ⟨l0, rfl, lv0⟩ := Sx.open_flat Try.underlying25 (ks := [some .u64, some .u64, some .u64, some .u64, some .u64, some .u64, some .u64, some .u64, some .u64, some .u64, some .u64, some .u64, some .u64, some .u64, some .u64, some .u64, some .u64, some .u64, some .u64, some .u64, some .u64, some .u64, some .u64, some .u64, some .u64, some .u64, some .u64, some .u64, some .u64, some .u64, some .u64]) (by kernel_rfl) (hval 0 25 v0 rfl rfl) h0
  obtain ⟨a0, a1, a2, a3, a4, a5, a6, a7, a8, a9, a10, a11, a12, a13, a14, a15, a16, a17, a18, a19, a20, a21, a22, a23, a24, a25, a26, a27, a28, a29, a30, rfl, u0, u1, u2, u3, u4, u5, u6, u7, u8, u9, u10, u11, u12, u13, u14, u15, u16, u17, u18, u19, u20, u21, u22, u23, u24, u25, u26, u27, u28, u29, u30, _⟩ := leaves_of0 lv0
  obtain ⟨a31, rfl, _, _, w1⟩ := open_int Try.underlying5 (hval 1 5 v1 rfl rfl) h1
  clear hA0 hval0
  refine (law_any a0 a1 a2 a3 a4 a5 a6 a7 a8 a9 a10 a11 a12 a13 a14 a15 a16 a17 a18 a19 a20 a21 a22 a23 a24 a25 a26 a27 a28 a29 a30 a31 (wf_u64 u0) (wf_u64 u1) (wf_u64 u2) (wf_u64 u3) (wf_u64 u4) (wf_u64 u5) (wf_u64 u6) (wf_u64 u7) (wf_u64 u8) (wf_u64 u9) (wf_u64 u10) (wf_u64 u11) (wf_u64 u12) (wf_u64 u13) (wf_u64 u14) (wf_u64 u15) (wf_u64 u16) (wf_u64 u17) (wf_u64 u18) (wf_u64 u19) (wf_u64 u20) (wf_u64 u21) (wf_u64 u22) (wf_u64 u23) (wf_u64 u24) (wf_u64 u25) (wf_u64 u26) (wf_u64 u27) (wf_u64 u28) (wf_u64 u29) (wf_u64 u30) (wf_u8 w1) W).mono fun e W' ⟨he, bel⟩ => ?_
  subst he
  exact ⟨_, rfl, _, _, _, [], _, [], hW', trodAll_mk1 (shut_bool Try.underlying4 _), (trodAll_cons_mk (Below.trod Try.laidOut (by kernel_rfl) (of_decide_eq_true (by kernel_rfl)) k0 bel lt0) (trodAll_cons_mk (Below.trod Try.laidOut (by kernel_rfl) (of_decide_eq_true (by kernel_rfl)) k1 bel lt1) trodAll_mk0)), rfl, bel.frame _, fun h => by cases h⟩

theorem law_over : Rows.trapFreeRow.holds Try.pinned (OpenSpec.ofChange Rows.trapFreeSpec) :=
  OpenClaim.holds_of_wide 3 Try.f3 rfl rfl rfl rfl rfl rfl rfl ⟨rfl, rfl, rfl, rfl, rfl⟩ rfl rfl rfl rfl rfl (by kernel_rfl) Try.func3 (by kernel_rfl)
    (of_decide_eq_true (by kernel_rfl)) (by unfold Func.isWrapper; first | (rw [if_pos (by decide +kernel)]; kernel_rfl) | (rw [if_neg (by decide +kernel)]; exact ⟨rfl, rfl⟩))
    (fun os started H enc _ => law_lifted os started H enc)

theorem trapFree_holds : Rows.TrapFreeSaid := law_over
end Go.Proofs.Ytphiankhcbmgmaa
