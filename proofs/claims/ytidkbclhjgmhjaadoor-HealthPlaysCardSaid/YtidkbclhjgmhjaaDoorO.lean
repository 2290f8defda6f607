/- HealthPlays: both monitors side by side. -/
import Derived.Test.YtidkbclhjgmhjaaDoorM
set_option linter.unusedVariables false
set_option linter.unusedSimpArgs false
namespace Go.Proofs.YtidkbclhjgmhjaaDoor
open Go.RowKit
theorem wpList_unguard {P : Program} {ops : Array Oper} {rest : List Oper} {o : Oper} {a : Act} {w : World} {Q : Exit → Act → World → Prop} (hw : Region.wanted o (yielded ops a.tmps) = true) (h : wpList P ops Q ({ o with guard := none } :: rest) a w) : wpList P ops Q (o :: rest) a w := by
  simp only [wpList] at h ⊢
  rw [if_pos hw]
  exact h
structure Both (W w : World) (B C : Nat) (T : Nat → Int) (pg li rs p re : Int) (ha : Bool) (R : List Int) (re' : Int) (ha' : Bool) (K : Nat → Prop) (v : Value) : Prop where
  b : Box w B 44 (mon T rs p re ha)
  d : Dv w C T pg li rs R re' ha' K v
  nB : ¬ K B
  lB : W.heap.size ≤ B
  lK : ∀ k, K k → W.heap.size ≤ k
  bel : Below W.heap.size W w
def Bt (W w : World) (B C : Nat) (T : Nat → Int) (pg li rs p re : Int) (ha : Bool) (R : List Int) (re' : Int) (ha' : Bool) : Prop := ∃ K v, Both W w B C T pg li rs p re ha R re' ha' K v
section
variable {W w w' : World} {B C : Nat} {T : Nat → Int} {pg li rs p re p' re' re2 : Int} {ha ha' ha2 : Bool} {R R2 : List Int} {K : Nat → Prop} {v v2 : Value} {it : Int → ByteArray}
theorem Both.own (k : Both W w B C T pg li rs p re ha R re' ha' K v) (b : Box w' B 44 (mon T rs p' re2 ha2)) (o : Only B w w') : Both W w' B C T pg li rs p' re2 ha2 R re' ha' K v :=
  ⟨b, ⟨k.d.box.only o (fun e => k.nB (e ▸ k.d.kC)), k.d.lane.only o k.b (by decide), k.d.kC, k.d.kv⟩, k.nB, k.lB, k.lK, k.bel.trans (o.below k.lB k.bel.size)⟩
theorem Both.ref (k : Both W w B C T pg li rs p re ha R re' ha' K v) (d : Dv w' C T pg li rs R2 re2 ha2 (grew K w w') v2) (t : Touch K w w') : Both W w' B C T pg li rs p re ha R2 re2 ha2 (grew K w w') v2 :=
  ⟨k.b.touch t k.nB, d, fun h => by
    rcases h with h | h
    · exact k.nB h
    · have := k.b.inHeap; omega, k.lB, fun b h => by
    rcases h with h | h
    · exact k.lK b h
    · have := k.bel.size; omega, k.bel.trans (t.below k.lK k.bel.size)⟩
theorem Dv.mono {K' : Nat → Prop} (hv : Dv w C T pg li rs R re ha K v) (h : ∀ k, K k → K' k) : Dv w C T pg li rs R re ha K' v := ⟨hv.box, hv.lane, h _ hv.kC, fun k e => h k (hv.kv k e)⟩
theorem Bt.later (k : Bt W w B C T pg li rs p re ha R re' ha') (h : Below w.heap.size w w') : Bt W w' B C T pg li rs p re ha R re' ha' := by
  obtain ⟨K, v, k⟩ := k
  exact ⟨K, v, k.b.over h k.b.inHeap, k.d.over h, k.nB, k.lB, k.lK, k.bel.trans (h.mono k.bel.size)⟩
theorem Bt.drawn (k : Bt W w B C T pg li rs p re ha R re' ha') (n : Nat) : Bt W (w.drewN n) B C T pg li rs p re ha R re' ha' := k.later (below_drawn (Below.refl _ _) n)
theorem Bt.bel (k : Bt W w B C T pg li rs p re ha R re' ha') : Below W.heap.size W w := by obtain ⟨K, v, k⟩ := k; exact k.bel
theorem Bt.mo (k : Bt W w B C T pg li rs p re ha R re' ha') : Box w B 44 (mon T rs p re ha) := by obtain ⟨K, v, k⟩ := k; exact k.b
theorem Bt.c21 (k : Bt W w B C T pg li rs p re ha R re' ha') : w.cell? ⟨C, 21, none⟩ = some (.int .i64 re') := by obtain ⟨K, v, k⟩ := k; exact k.d.box.read 21
theorem Bt.c22 (k : Bt W w B C T pg li rs p re ha R re' ha') : w.cell? ⟨C, 22, none⟩ = some (.bool ha') := by obtain ⟨K, v, k⟩ := k; exact k.d.box.read 22
theorem Bt.take (k : Bt W w B C T pg li rs p re ha R re' ha') (hp : 0 ≤ p) (hp4 : p ≤ 4) (hr : 0 ≤ re) (hr1 : re ≤ rs) (hm : rs ≤ 255) : Calls Tryd.prog 9 #[.pointer (some ⟨B, 0, none⟩)] w fun e w' => e = .returned (.int .u8 (takes rs p re)) ∧ Bt W w' B C T pg li rs 0 (again rs p re) (halts rs p re ha) R re' ha' := by
  obtain ⟨K, v, k⟩ := k
  refine (take_any k.b hp hp4 hr hr1 hm).mono ?_
  rintro e w' ⟨rfl, b, o⟩
  exact ⟨rfl, K, v, k.own b o⟩
theorem Bt.raise (k : Bt W w B C T pg li rs p re ha R re' ha') (f : Nat) (hf : f < 256) : Calls Tryd.prog 11 #[.pointer (some ⟨B, 0, none⟩), .int .u8 f] w fun e w' => e = .returned (.int .u8 (act T f)) ∧ Bt W w' B C T pg li rs (pend T f p ha) re ha R re' ha' := by
  obtain ⟨K, v, k⟩ := k
  refine (raise_any k.b f hf).mono ?_
  rintro e w' ⟨rfl, b, o⟩
  exact ⟨rfl, K, v, k.own b o⟩
theorem Bt.dtake (k : Bt W w B C T pg li rs p re ha R re' ha') (hn : R.length ≤ 1000) (h0 : 0 ≤ pendH R ha') (h4 : pendH R ha' ≤ 4) (hr : 0 ≤ re') (hr1 : re' ≤ rs) (hm : rs ≤ 255) : Calls Tryd.prog 10 #[.pointer (some ⟨C, 0, none⟩)] w fun e w' => e = .returned (.int .u8 (takes rs (pendH R ha') re')) ∧ Bt W w' B C T pg li rs p re ha [] (again rs (pendH R ha') re') (halts rs (pendH R ha') re' ha') := by
  obtain ⟨K, v, k⟩ := k
  refine (dtake_any k.d hn h0 h4 hr hr1 hm).mono ?_
  rintro e w' ⟨rfl, d, t⟩
  exact ⟨rfl, _, _, k.ref (d.mono fun _ h => .inl h) t⟩
def addR (T : Nat → Int) (f : Nat) (R : List Int) : List Int := if f < 17 then R ++ [T f] else R
theorem Bt.draise (k : Bt W w B C T pg li rs p re ha R re' ha') (hn : R.length ≤ 1000) (f : Nat) (hf : f < 256) : Calls Tryd.prog 12 #[.pointer (some ⟨C, 0, none⟩), .int .u8 f] w fun e w' => e = .returned (.int .u8 (act T f)) ∧ Bt W w' B C T pg li rs p re ha (addR T f R) re' ha' := by
  obtain ⟨K, v, k⟩ := k
  by_cases h17 : f < 17
  · rw [act, if_pos h17, addR, if_pos h17]
    refine (draise_in k.d hn f h17).mono ?_
    rintro e w' ⟨rfl, ⟨v', d⟩, t⟩
    exact ⟨rfl, _, _, k.ref d t⟩
  · rw [act, if_neg h17, addR, if_neg h17]
    refine (draise_far k.d f (by omega) hf).mono ?_
    rintro e w' ⟨rfl, rfl⟩
    exact ⟨rfl, K, v, k⟩
theorem Bt.dpend (k : Bt W w B C T pg li rs p re ha R re' ha') (hn : R.length ≤ 1000) : Calls Tryd.prog 14 #[.pointer (some ⟨C, 0, none⟩)] w fun e w' => e = .returned (.int .u8 (pendH R ha')) ∧ w = w' := by
  obtain ⟨K, v, k⟩ := k
  exact dpend_any k.d hn
theorem Bt.pend (k : Bt W w B C T pg li rs p re ha R re' ha') : Calls Tryd.prog 13 #[.pointer (some ⟨B, 0, none⟩)] w fun e w' => e = .returned (.int .u8 p) ∧ w = w' := pending_any B p w (k.mo.read 0) (k.mo.read 19)
theorem Bt.halted (k : Bt W w B C T pg li rs p re ha R re' ha') : Calls Tryd.prog 15 #[.pointer (some ⟨B, 0, none⟩)] w fun e w' => e = .returned (.bool ha) ∧ w = w' := halted_any B ha w (k.mo.read 0) (k.mo.read 21)
theorem Bt.restarts (k : Bt W w B C T pg li rs p re ha R re' ha') : Calls Tryd.prog 16 #[.pointer (some ⟨B, 0, none⟩)] w fun e w' => e = .returned (.int .u8 re) ∧ w = w' := restarts_any B re w (k.mo.read 0) (k.mo.read 20)
theorem Bt.text {P Z : Nat} (k : Bt W w B C T pg li rs p re ha R re' ha') (hN : Nums itS W) (hP : p = P) (hP4 : P ≤ 4) (hZ : re = Z) (hZ2 : Z ≤ 255) : Calls Tryd.prog 17 #[.pointer (some ⟨B, 0, none⟩)] w fun e w' => e = .returned (.string (dtxt P Z ha)) ∧ Bt W w' B C T pg li rs p re ha R re' ha' := by
  subst hP hZ
  refine (text_any hN k.mo (by omega) (by omega) (by omega) (by omega) k.bel).mono ?_
  rintro e w' ⟨rfl, d⟩
  exact ⟨by rw [txt_same P Z (by omega) (by omega)], k.later d⟩
theorem Bt.dtext {P Z : Nat} (k : Bt W w B C T pg li rs p re ha R re' ha') (hn : R.length ≤ 1000) (hP : pendH R ha' = P) (hP4 : P ≤ 4) (hZ : re' = Z) (hZ2 : Z ≤ 255) : Calls Tryd.prog 18 #[.pointer (some ⟨C, 0, none⟩)] w fun e w' => e = .returned (.string (dtxt P Z ha')) ∧ Bt W w' B C T pg li rs p re ha R re' ha' := by
  subst hZ
  have k' := k
  obtain ⟨K, v, k⟩ := k
  refine (dtext_any P Z k.d hn hP (by omega) (by omega)).mono ?_
  rintro e w' ⟨rfl, d⟩
  exact ⟨rfl, k'.later d⟩
end
theorem pendH_add {T : Nat → Int} {R : List Int} {ha : Bool} (f : Nat) : pend T f (pendH R ha) ha = pendH (addR T f R) ha := by
  unfold pend addR pendH
  by_cases h17 : f < 17
  · rw [if_pos h17]
    cases ha
    · simp only [Bool.false_eq_true, if_false, h17, true_and, and_true]
      rw [pendL_snoc]
      by_cases h1 : 1 < T f
      · rw [if_pos h1]
        by_cases h2 : pendL R < T f
        · rw [if_pos ⟨h1, h2⟩]; omega
        · rw [if_neg (fun h => h2 h.2)]; omega
      · rw [if_neg h1, if_neg (fun h => h1 h.1)]
    · simp
  · rw [if_neg h17, if_neg (fun h => h17 h.1)]
theorem addR_lt {T : Nat → Int} (hT : ∀ k, k < 17 → T k < 5) {R : List Int} (h : ∀ x ∈ R, x < 5) (f : Nat) : ∀ x ∈ addR T f R, x < 5 := by
  unfold addR
  split
  · intro x hx
    rcases List.mem_append.1 hx with hx | hx
    · exact h x hx
    · rw [List.mem_singleton] at hx; subst hx; exact hT f (by assumption)
  · exact h
theorem addR_len (T : Nat → Int) (f : Nat) (R : List Int) : (addR T f R).length ≤ R.length + 1 := by
  unfold addR
  split <;> simp
theorem pendH_bd {R : List Int} (h : ∀ x ∈ R, x < 5) (ha : Bool) : 0 ≤ pendH R ha ∧ pendH R ha ≤ 4 := by
  unfold pendH
  split
  · omega
  · exact pendL_bd R h
theorem pendH_nil (ha : Bool) : pendH [] ha = 0 := by cases ha <;> rfl
section
variable {T : Nat → Int} {pg li rs : Int}
set_option maxHeartbeats 400000 in
set_option maxRecDepth 100000 in
theorem law_long (a0 : Option Addr) (len cap : Nat) (hl : 200 < len) (w : World) :
    Calls Tryd.prog 3 #[.agg (guest T pg li rs), .slice a0 len cap] w (Yes w) := by
  go_enter Tryd.func3, Tryd.ntmps3
  go_wp2_with fail
  refine (awake_any _).mono ?_
  rintro e w3 ⟨rfl, d3⟩
  go_wp2_with fail
  go_ret
  exact ⟨rfl, ((Below.refl _ _).alloc (Nat.le_refl _) _).trans (d3.mono (by simp))⟩
set_option maxHeartbeats 400000 in
set_option maxRecDepth 100000 in
theorem law_bad (hT : ∃ k, k < 17 ∧ 5 ≤ T k) (a0 : Option Addr) (len cap : Nat) (hl : len ≤ 200) (w : World) :
    Calls Tryd.prog 3 #[.agg (guest T pg li rs), .slice a0 len cap] w (Yes w) := by
  have hB : Box (w.alloc (.cells (guest T pg li rs) 25)) w.heap.size 25 (guest T pg li rs) := Box.made _ _ _
  go_enter Tryd.func3, Tryd.ntmps3
  go_wp2_with (refine wpList_load_row rfl 25 (.tmp 2) rfl w.heap.size rfl 25 (guest T pg li rs) (0, 0) _ ?_ Tryd.underlying25 rfl size_guest ?_; exact hB)
  refine (new_bad hT _).mono ?_
  rintro e w1 ⟨rfl, d1⟩
  have g1 : Box w1 w.heap.size 25 (guest T pg li rs) := hB.over d1 (by simp)
  go_wp2_with (refine wpList_load_row rfl 25 (.tmp 2) rfl w.heap.size rfl 25 (guest T pg li rs) (0, 0) _ ?_ Tryd.underlying25 rfl size_guest ?_; exact g1)
  refine (dnew_bad hT _).mono ?_
  rintro e w2 ⟨rfl, d2⟩
  have g2 : Box w2 w.heap.size 25 (guest T pg li rs) := g1.over d2 g1.inHeap
  go_wp2_with (refine wpList_unguard (by rfl) ?_; refine wpList_load_row rfl 25 (.tmp 2) rfl w.heap.size rfl 25 (guest T pg li rs) (0, 0) _ ?_ Tryd.underlying25 rfl size_guest ?_; exact g2)
  refine (check_bad hT _).mono ?_
  rintro e w3 ⟨rfl, hw3⟩
  have d3 : Below w2.heap.size w2 w3 := hw3 ▸ (Below.refl _ _).alloc (Nat.le_refl _) _
  clear hw3
  by_cases h0 : 0 < len
  · have hp : (0 : Int) < (len : Int) := by omega
    go_wp2_with fail
    refine wp_loop_rounds 1 ?_
    rw [rounds_succ]
    go_wp2_with fail
    refine (awake_any _).mono ?_
    rintro e w4 ⟨rfl, d4⟩
    go_wp2_with fail
    go_ret
    have s1 := d1.size
    have s2 := d2.size
    have s3 := d3.size
    simp at s1
    exact ⟨rfl, (((((Below.refl _ _).alloc (Nat.le_refl _) _).trans (d1.mono (by simp))).trans (d2.mono (by omega))).trans (d3.mono (by omega))).trans (d4.mono (by omega))⟩
  · obtain rfl : len = 0 := by omega
    go_wp2_with fail
    refine wp_loop_rounds 1 ?_
    rw [rounds_succ]
    go_wp2_with fail
    refine (awake_any _).mono ?_
    rintro e w4 ⟨rfl, d4⟩
    go_wp2_with fail
    go_ret
    have s1 := d1.size
    have s2 := d2.size
    have s3 := d3.size
    simp at s1
    exact ⟨rfl, (((((Below.refl _ _).alloc (Nat.le_refl _) _).trans (d1.mono (by simp))).trans (d2.mono (by omega))).trans (d3.mono (by omega))).trans (d4.mono (by omega))⟩
end
end Go.Proofs.YtidkbclhjgmhjaaDoor
