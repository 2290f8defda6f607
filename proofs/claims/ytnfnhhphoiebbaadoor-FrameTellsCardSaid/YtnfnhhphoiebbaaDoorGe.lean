/- The document's Owned. -/
import Derived.Test.YtnfnhhphoiebbaaDoorGg
set_option linter.unusedVariables false
set_option linter.unusedSimpArgs false
namespace Go.Proofs.YtnfnhhphoiebbaaDoor
open Go.RowKit
theorem run_slice_to {P : Program} {t e : TypeId} {i : TypeInfo} (ht : P.underlying t = some (.slice e)) (hi : P.info? e = some i) (hs : i.size = 1) {g off n cap k : Nat} (hk : k ≤ cap) (w : World) :
    (Instr.slice t (.slice (some ⟨g, off, none⟩) n cap) none (some (.int .u64 k)) none).run P w = .ok (.slice (some ⟨g, off, none⟩) k cap) w := by
  have h1 : (0 : Int) ≤ (k : Int) ∧ (k : Int) ≤ (cap : Int) := by omega
  simp [Instr.slice, Instr.sliceBounds, Instr.sliceBound, run_underlying ht, sizeOf, typeInfo, hi, hs, Result.andThen, h1, hk, go_sem]
theorem Lane.take {w : World} {e : TypeId} {g off n cap : Nat} {T : List Value} (h : Lane w e (.slice (some ⟨g, off, none⟩) n cap) T) (k : Nat) (hk : k ≤ T.length) :
    Lane w e (.slice (some ⟨g, off, none⟩) k cap) (T.take k) := by
  rcases h with ⟨h, _⟩ | ⟨g', off', cap', cur, h, hb, h1, h2, h3, h4⟩
  · cases h
  · cases h
    refine .inr ⟨g, off, cap, cur, by rw [List.length_take, Nat.min_eq_left hk], hb, by rw [List.length_take]; omega, h2, h3, fun j u hj => ?_⟩
    rw [List.getElem?_take] at hj
    split at hj
    · exact h4 j u hj
    · cases hj
section
variable {w w' : World} {b off cap : Nat} {l : List Win}
/-- The document's frame that stands in memory. -/
structure Fm (w : World) (b off cap : Nat) (l : List Win) : Prop where
  lane : Lane w 5 (.slice (some ⟨b, off, none⟩) (tot l) cap) (bv (fr l))
  pos : 0 < tot l
  top : tot l ≤ 1024
  le : tot l ≤ cap
  bnd : ∀ x ∈ fr l, x < 256
theorem Fm.below (h : Fm w b off cap l) (k : Below w.heap.size w w') : Fm w' b off cap l := ⟨h.lane.below k (Nat.le_refl _), h.pos, h.top, h.le, h.bnd⟩
theorem Fm.count (h : Fm w b off cap l) (g : Nat) (hg : g < 256) : Calls Tryd.prog 16 #[.slice (some ⟨b, off, none⟩) (tot l) cap, .int .u8 g] w fun e w' => e = .returned (.int .u64 (cnt l g : Nat)) ∧ w = w' :=
  count_any (fr_len l) h.lane (by have := h.top; omega) h.bnd g hg
theorem Fm.ahead (h : Fm w b off cap l) (g k : Nat) (hg : g < 256) (hk : k ≤ tot l) : Calls Tryd.prog 16 #[.slice (some ⟨b, off, none⟩) k cap, .int .u8 g] w fun e w' => e = .returned (.int .u64 (ahd l g k : Nat)) ∧ w = w' := by
  have h1 := h.lane.take k (by rw [bv_len, fr_len]; exact hk)
  have e : (bv (fr l)).take k = bv ((fr l).take k) := by simp [bv, List.map_take]
  rw [e] at h1
  exact count_any (by rw [List.length_take, fr_len]; omega) h1 (by have := h.top; omega) (fun x hx => h.bnd x (List.mem_of_mem_take hx)) g hg
theorem Fm.cell (h : Fm w b off cap l) {k : Nat} (hk : k < tot l) : w.cell? ⟨b, off + k, none⟩ = some (.int .u8 ((fr l).getD k 0 : Nat)) := by
  have hl : k < (fr l).length := by rw [fr_len]; exact hk
  have e : (fr l)[k]? = some ((fr l).getD k 0) := by rw [List.getD_eq_getElem?_getD, List.getElem?_eq_getElem hl]; rfl
  exact h.lane.cell k _ (bv_at e)
theorem Fm.at_lt (h : Fm w b off cap l) {k : Nat} (hk : k < tot l) : (fr l).getD k 0 < 256 := by
  have hl : k < (fr l).length := by rw [fr_len]; exact hk
  rw [List.getD_eq_getElem?_getD, List.getElem?_eq_getElem hl]
  exact h.bnd _ (List.getElem_mem hl)
set_option maxHeartbeats 1000000 in
theorem downed_any (hf : Fm w b off cap l) (g st : Nat) (hg : g < 256) (hst : st < 18446744073709551616) : Calls Tryd.prog 18 #[.slice (some ⟨b, off, none⟩) (tot l) cap, .int .u8 g, .int .u64 st] w fun e w' => e = .returned (.int .u64 (owd l g st : Nat)) ∧ Below w.heap.size w w' := by
  obtain ⟨i0, hi, iz0, iz1, iz2⟩ := info_parts info5
  have t1 : (0 : Int) < (tot l : Int) := by have := hf.pos; omega
  have t2 : (tot l : Int) ≤ 1024 := by have := hf.top; omega
  have t3 : ((tot l : Int) == 0) = false := beq_eq_false_iff_ne.2 (by omega)
  have HQ := Lib.hid hf
  have hdv : (st : Int) / (tot l : Int) = ((st / tot l : Nat) : Int) := rfl
  have hmt : (st : Int).tmod (tot l : Int) = ((st % tot l : Nat) : Int) := rfl
  have hmd : (st : Int) % (tot l : Int) = ((st % tot l : Nat) : Int) := rfl
  have hmp : st % tot l < tot l := Nat.mod_lt _ hf.pos
  have hal := ahd_lep l g (st % tot l)
  have hqs : st / tot l ≤ st := Nat.div_le_self _ _
  have hsum : st / tot l * cnt l g + ahd l g (st % tot l) ≤ st := by
    have h1 : st / tot l * cnt l g ≤ tot l * (st / tot l) := by rw [Nat.mul_comm (tot l)]; exact Nat.mul_le_mul_left _ (cnt_le l g)
    have h2 := Nat.div_add_mod st (tot l)
    omega
  have hsl : ∀ w, (Instr.slice 30 (.slice (some ⟨b, off, none⟩) (tot l) cap) none (some (.int .u64 (st % tot l : Nat))) none).run Tryd.prog w = .ok (.slice (some ⟨b, off, none⟩) (st % tot l) cap) w := fun w => run_slice_to Tryd.underlying30 hi iz1 (by have := hf.le; omega) w
  have HO : Hid (owd l g st = st / tot l * cnt l g + ahd l g (st % tot l)) := Lib.hid rfl
  have HA := Lib.hid (fun wx (hb : Below w.heap.size w wx) => (HQ.out.below hb).ahead g (st % tot l) hg (Nat.le_of_lt hmp))
  have HB := Lib.hid (fun wx (hb : Below w.heap.size w wx) => (HQ.out.below hb).count g hg)
  clear hf
  generalize st / tot l = qn at hdv hqs hsum HO
  generalize ahd l g (st % tot l) = an at hal hsum HO HA
  generalize st % tot l = rn at hmd hmt hmp hal HO HA hsl
  generalize cnt l g = cn at hsum HO HB
  have hcast : ((qn * cn : Nat) : Int) = (qn : Int) * (cn : Int) := Int.natCast_mul qn cn
  have m0 : (0 : Int) ≤ (qn : Int) * (cn : Int) := by omega
  have w1 : IntKind.u64.wrap (qn : Int) = (qn : Int) := by
    show (qn : Int) % 18446744073709551616 = _
    omega
  have w2 : IntKind.u64.wrap ((qn : Int) * (cn : Int)) = (qn : Int) * (cn : Int) := by
    show ((qn : Int) * (cn : Int)) % 18446744073709551616 = _
    have := Int.natCast_nonneg an
    omega
  have w3 : IntKind.u64.wrap ((qn : Int) * (cn : Int) + (an : Int)) = (qn : Int) * (cn : Int) + (an : Int) := by
    show ((qn : Int) * (cn : Int) + (an : Int)) % 18446744073709551616 = _
    omega
  have w4 : IntKind.u64.wrap (rn : Int) = (rn : Int) := by
    show (rn : Int) % 18446744073709551616 = _
    omega
  have a0 : (0 : Int) ≤ (an : Int) := Int.natCast_nonneg _
  have a1 : (an : Int) ≤ 1024 := by omega
  have r0 : (0 : Int) ≤ (rn : Int) := Int.natCast_nonneg _
  have t4 : ¬ ((tot l : Int) = 0) := by omega
  go_enter Tryd.func18, Tryd.ntmps18
  go_wp2
  have H0 : Hid (Below w.heap.size w w.drew) := Lib.hid (Below.refl _ _).drew
  refine wp_region_calm (fun w' => Below w.heap.size w w') (.e 0 :: .e 0 :: .e 0 :: .e 0 :: .e 0 :: .e 2 :: .e 2 :: .e 2 :: .e 2 :: .e 2 :: .e 2 :: .l 0 :: .e 0 :: .l 0 :: .e 0 :: .e 0 :: []) (by kernel_rfl) (by kernel_rfl) (by kernel_rfl) (by kernel_rfl) ?_
  have hHeld : Below w.heap.size w w.drew := H0.out
  clear hal hmp hcast hqs hsum
  generalize htt : (tot l : Int) = tt at t1 t2 t3 t4 hdv hmd hmt ⊢
  clear htt
  repeat (first
    | (refine mv_take0 (v := ?_) (by rfl) hHeld ?_ ?_; rotate_left 1; (focus (intro w hSw; (try dsimp only at hSw); have hs0 := hSw; go_simp; (try with_reducible rfl); done)); (try simp only [Act.put, List.setIfInBounds_toArray, List.set_cons_zero, List.set_cons_succ]))
    | (refine mv_take2 (v := ?_) (by rfl) hHeld ?_ ?_; rotate_left 1; (focus (intro w hSw; (try dsimp only at hSw); have hs0 := hSw; go_simp; (try with_reducible rfl); done)); (try simp only [Act.put, List.setIfInBounds_toArray, List.set_cons_zero, List.set_cons_succ]))
    | (refine mv_loud0 (by rfl) (fun K hK => ?_)
       go_simp
       first
         | (go_at_call 16; have Hx := H1; clear Hx; refine (HA.out _ H0.out).mono ?_; rintro e w6 ⟨rfl, rfl⟩; refine hK.out _ _ hHeld ?_)
         | (go_at_call 16; refine (HB.out _ H0.out).mono ?_; rintro e w5 ⟨rfl, rfl⟩; have H1 := H0; refine hK.out _ _ hHeld ?_)
       clear hK K
       (try simp only [Act.put, List.setIfInBounds_toArray, List.set_cons_zero, List.set_cons_succ])))
  refine mv_calm ?_
  go_wp2
  go_ret
  have hfin : ((owd l g st : Nat) : Int) = (qn : Int) * (cn : Int) + (an : Int) := by rw [HO.out, Int.natCast_add, Int.natCast_mul]
  exact ⟨ret_eq hfin.symm, H0.out⟩
end
end Go.Proofs.YtnfnhhphoiebbaaDoor
