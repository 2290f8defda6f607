/- The program's memory: Copy. -/
import Derived.Test.YtjdedgfbonlmkaaDg
import Derived.Laws.CopyRow
set_option linter.unusedVariables false
set_option linter.unusedSimpArgs false
namespace Go.Proofs.Ytjdedgfbonlmkaa
open Go.RowKit
theorem wp_copy_eq (P : Program) (w : World) {o : Oper} {a : Act} {K : Act → World → Prop} {Q : Exit → Act → World → Prop} (d s : Operand) (t t' : TypeId)
    (ho : o.op = .call { callee := .builtin .copy, args := #[d, s], argTypes := #[t, t'] }) (v u : Value) (hd : a.eval d = v) (hs : a.eval s = u) {v' : Value} {w' : World}
    (hr : (Builtin.copy_ #[t, t'] o.type #[v, u]).run P w = .ok v' w') (h : K (a.put o.dst v') w') : o.wp P a w K Q := by
  unfold Oper.wp execOp
  simp only [ho, resolve, invoke, builtin, Sem.run_bind, Sem.run_pure, Result.andThen_ok, List.map_toArray, List.map_cons, List.map_nil, hd, hs, hr]
  exact h
section
variable {w w' : World} {B g N at' wd : Nat} {l : List UInt8}
theorem Rm.over (h : Rm w B g N at' wd l) (k : Below w.heap.size w w') : Rm w' B g N at' wd l := ⟨h.box.over k h.box.inHeap, h.mem.over k h.mem.inHeap, h.len, h.big, h.top, h.at1⟩
set_option maxHeartbeats 2000000 in
theorem mcopy_any (h : Rm w B g N at' wd l) : Calls Try.prog 13 #[.pointer (some ⟨B, 0, none⟩)] w fun e w' => e = .returned (.pointer (some ⟨w.heap.size + 1, 0, none⟩)) ∧ Rm w' (w.heap.size + 1) w.heap.size N at' wd l ∧ Below w.heap.size w w' ∧ w'.heap.size = w.heap.size + 2 := by
  obtain ⟨i0, hi, iz0, iz1, iz2⟩ := info_parts info5
  have htop := h.top
  have hbig := h.big
  have hmk := fun wx : World => run_make (P := Try.prog) wx 45 5 i0 (.int .u8 0) Try.underlying45 hi iz0 .i64 .i64 (N : Int) (N : Int) (by omega) (by omega) (by rw [iz2]; omega) (by omega)
  simp only [iz1, Nat.mul_one, show (Value.int .u8 0).cells = #[.int .u8 0] from rfl, Int.toNat_natCast, made_vals] at hmk
  generalize hM : List.replicate N (0 : UInt8) = M at hmk
  have hMl : M.length = N := by rw [← hM]; exact List.length_replicate
  have c0 : w.cell? ⟨B, 0, none⟩ = some (.slice (some ⟨g, 0, none⟩) N N) := h.box.read 0
  have c1 : w.cell? ⟨B, 1, none⟩ = some (.int .u64 at') := h.box.read 1
  have c2 : w.cell? ⟨B, 2, none⟩ = some (.int .i64 wd) := h.box.read 2
  have HM := Lib.hid h
  have HL := Lib.hid hMl
  clear hM h hMl
  go_enter Try.func13, Try.ntmps13
  go_wp2_with (go_at_call 30; refine (made_any HM.out).mono ?_; rintro e w' ⟨rfl, rfl⟩)
  refine wp_region_calm (fun w' => w'.cell? ⟨B, 0, none⟩ = some (.slice (some ⟨g, 0, none⟩) N N) ∧ w'.cell? ⟨B, 1, none⟩ = some (.int .u64 at') ∧ w'.cell? ⟨B, 2, none⟩ = some (.int .i64 wd))
    (.e 0 :: .e 0 :: .e 0 :: .e 0 :: .e 0 :: .e 1 :: .e 1 :: .e 1 :: .e 1 :: .l 0 :: .e 0 :: .l 0 :: .e 0 :: []) (by kernel_rfl) (by kernel_rfl) (by kernel_rfl) (by kernel_rfl) ?_
  have hHeld : (w.drew.cell? ⟨B, 0, none⟩ = some (.slice (some ⟨g, 0, none⟩) N N) ∧ w.drew.cell? ⟨B, 1, none⟩ = some (.int .u64 at') ∧ w.drew.cell? ⟨B, 2, none⟩ = some (.int .i64 wd)) := ⟨c0, c1, c2⟩
  repeat (first
    | (refine mv_take0 (v := ?_) (by rfl) hHeld ?_ ?_; rotate_left 1; (focus (intro w hSw; (try dsimp only at hSw); obtain ⟨g0, g1, g2⟩ := hSw; go_simp; (try with_reducible rfl); done)); (try simp only [Act.put, List.setIfInBounds_toArray, List.set_cons_zero, List.set_cons_succ]))
    | (refine mv_take1 (v := ?_) (by rfl) hHeld ?_ ?_; rotate_left 1; (focus (intro w hSw; (try dsimp only at hSw); obtain ⟨g0, g1, g2⟩ := hSw; go_simp; (try with_reducible rfl); done)); (try simp only [Act.put, List.setIfInBounds_toArray, List.set_cons_zero, List.set_cons_succ])))
  refine mv_loud0 (by rfl) (fun K2 hK => ?_)
  go_simp
  have hg1 : Box (w.alloc (.cells (vals M).toArray 5)).drew w.heap.size 5 (vals M).toArray := (Box.made w 5 _).drawn1
  have bl1 : Below w.heap.size w (w.alloc (.cells (vals M).toArray 5)).drew := ((Below.refl _ w).alloc (Nat.le_refl _) _).drew
  have hs1 : (w.alloc (.cells (vals M).toArray 5)).drew.heap.size = w.heap.size + 1 := by simp
  have H1 := Lib.hid (And.intro hg1 (And.intro bl1 (HM.out.over bl1)))
  clear hg1 bl1
  generalize (w.alloc (.cells (vals M).toArray 5)).drew = w1 at H1 hs1 ⊢
  have hHeld1 : (w1.cell? ⟨B, 0, none⟩ = some (.slice (some ⟨g, 0, none⟩) N N) ∧ w1.cell? ⟨B, 1, none⟩ = some (.int .u64 at') ∧ w1.cell? ⟨B, 2, none⟩ = some (.int .i64 wd)) := ⟨H1.out.2.2.box.read 0, H1.out.2.2.box.read 1, H1.out.2.2.box.read 2⟩
  refine hK.out _ _ hHeld1 ?_
  clear hK K2 hHeld hmk
  have hHeld := hHeld1
  clear hHeld1
  (try simp only [Act.put, List.setIfInBounds_toArray, List.set_cons_zero, List.set_cons_succ])
  refine mv_take0 (v := .agg #[.slice (some ⟨w.heap.size, 0, none⟩) N N, .int .u64 at', .int .i64 wd]) (by rfl) hHeld (fun w _ => by first | rfl | (go_simp; done) | kernel_rfl) ?_
  (try simp only [Act.put, List.setIfInBounds_toArray, List.set_cons_zero, List.set_cons_succ])
  refine mv_loud0 (by rfl) (fun K2 hK => ?_)
  go_simp
  have hx2 : Box (w1.alloc (.cells #[.slice (some ⟨w.heap.size, 0, none⟩) N N, .int .u64 at', .int .i64 wd] 65)) (w.heap.size + 1) 65 #[.slice (some ⟨w.heap.size, 0, none⟩) N N, .int .u64 at', .int .i64 wd] := by rw [← hs1]; exact Box.made w1 65 _
  have bl2 : Below w1.heap.size w1 (w1.alloc (.cells #[.slice (some ⟨w.heap.size, 0, none⟩) N N, .int .u64 at', .int .i64 wd] 65)) := (Below.refl _ w1).alloc (Nat.le_refl _) _
  have hs2 : (w1.alloc (.cells #[.slice (some ⟨w.heap.size, 0, none⟩) N N, .int .u64 at', .int .i64 wd] 65)).heap.size = w.heap.size + 2 := by simp; omega
  have H2 := Lib.hid (And.intro hx2 (And.intro (H1.out.1.over bl2 H1.out.1.inHeap) (And.intro (H1.out.2.1.trans (bl2.mono (by omega))) (And.intro (H1.out.2.2.over bl2) hs2))))
  clear hx2 bl2 hs2
  generalize w1.alloc (.cells #[.slice (some ⟨w.heap.size, 0, none⟩) N N, .int .u64 at', .int .i64 wd] 65) = w2 at H2 ⊢
  have hHeld2 : (w2.cell? ⟨B, 0, none⟩ = some (.slice (some ⟨g, 0, none⟩) N N) ∧ w2.cell? ⟨B, 1, none⟩ = some (.int .u64 at') ∧ w2.cell? ⟨B, 2, none⟩ = some (.int .i64 wd)) := ⟨H2.out.2.2.2.1.box.read 0, H2.out.2.2.2.1.box.read 1, H2.out.2.2.2.1.box.read 2⟩
  refine hK.out _ _ hHeld2 ?_
  clear hK K2 hHeld H1 hs1 c0 c1 c2
  have hHeld := hHeld2
  clear hHeld2
  (try simp only [Act.put, List.setIfInBounds_toArray, List.set_cons_zero, List.set_cons_succ])
  refine mv_take0 (v := ?_) (by rfl) hHeld ?_ ?_; rotate_left 1; (focus (intro w hSw; (try dsimp only at hSw); obtain ⟨g0, g1, g2⟩ := hSw; go_simp; (try with_reducible rfl); done))
  (try simp only [Act.put, List.setIfInBounds_toArray, List.set_cons_zero, List.set_cons_succ])
  refine mv_calm ?_
  have c0 := hHeld.1
  have n0 : w2.cell? ⟨w.heap.size + 1, 0, none⟩ = some (.slice (some ⟨w.heap.size, 0, none⟩) N N) := H2.out.1.read 0
  clear hHeld
  go_wp2
  refine wp_region_calm (fun w' => w'.cell? ⟨w.heap.size + 1, 0, none⟩ = some (.slice (some ⟨w.heap.size, 0, none⟩) N N) ∧ w'.cell? ⟨B, 0, none⟩ = some (.slice (some ⟨g, 0, none⟩) N N))
    (.e 0 :: .e 0 :: .e 0 :: .e 0 :: .e 0 :: .e 0 :: .e 0 :: .e 0 :: .l 0 :: []) (by kernel_rfl) (by kernel_rfl) (by kernel_rfl) (by kernel_rfl) ?_
  have hHeld : (w2.drew.cell? ⟨w.heap.size + 1, 0, none⟩ = some (.slice (some ⟨w.heap.size, 0, none⟩) N N) ∧ w2.drew.cell? ⟨B, 0, none⟩ = some (.slice (some ⟨g, 0, none⟩) N N)) := ⟨n0, c0⟩
  repeat (refine mv_take0 (v := ?_) (by rfl) hHeld ?_ ?_; rotate_left 1; (focus (intro w hSw; (try dsimp only at hSw); obtain ⟨g0, g1⟩ := hSw; go_simp; (try with_reducible rfl); done)); (try simp only [Act.put, List.setIfInBounds_toArray, List.set_cons_zero, List.set_cons_succ]))
  refine mv_loud0 (by rfl) (fun K2 hK => ?_)
  have hvl : (vals l).length = N := by rw [vals_len]; exact HM.out.len
  have hr := run_copy_row (P := Try.prog) w2.drew 45 45 3 5 w.heap.size 0 N N ⟨g, 0, none⟩ N N (vals M).toArray 5 (vals l) Try.underlying45 (by rw [hi]; simp [iz1]) H2.out.2.1.drawn1 (by rw [hvl]; exact (Nat.min_self N).symm) (fun j v hj => by
    have h := H2.out.2.2.2.1.mem.drawn1.read j
    have e : ((⟨g, 0, none⟩ : Addr).add j) = ⟨g, j, none⟩ := by rw [Addr.add_lit, Nat.zero_add]
    rw [e, h]
    simpa using hj) (by rw [hvl, List.size_toArray, vals_len, HL.out]; omega) (fun v hv => by simp [vals] at hv; obtain ⟨_, _, rfl⟩ := hv; rfl)
  have hrow : ((vals M).toArray.toList.take 0 ++ vals l ++ (vals M).toArray.toList.drop (0 + (vals l).length)).toArray = (vals l).toArray := by
    rw [hvl, List.take_zero, List.nil_append, Nat.zero_add, List.drop_of_length_le (by rw [List.toList_toArray, vals_len, HL.out]; exact Nat.le_refl _), List.append_nil]
  rw [hrow] at hr
  refine wp_copy_eq Try.prog _ _ _ 45 45 rfl _ _ rfl rfl hr ?_
  have hx3 : Box (w2.drew.setRow w.heap.size (vals l).toArray) (w.heap.size + 1) 65 #[.slice (some ⟨w.heap.size, 0, none⟩) N N, .int .u64 at', .int .i64 wd] := H2.out.1.drawn1.rowFar (by omega) _
  have hg3 : Box (w2.drew.setRow w.heap.size (vals l).toArray) w.heap.size 5 (vals l).toArray := H2.out.2.1.drawn1.row _
  have hBl := HM.out.box.inHeap
  have hb3 : Box (w2.drew.setRow w.heap.size (vals l).toArray) B 65 #[.slice (some ⟨g, 0, none⟩) N N, .int .u64 at', .int .i64 wd] := H2.out.2.2.2.1.box.drawn1.rowFar (by omega) _
  have bl3 : Below w.heap.size w (w2.drew.setRow w.heap.size (vals l).toArray) := H2.out.2.2.1.drew.trans ⟨rfl, rfl, rfl, by simp [World.setRow], fun k hk => setRow_other _ _ k _ (by omega)⟩
  have hs3 : (w2.drew.setRow w.heap.size (vals l).toArray).heap.size = w.heap.size + 2 := by have := H2.out.2.2.2.2; simp [World.setRow]; exact this
  refine hK.out _ _ ⟨hx3.read 0, hb3.read 0⟩ ?_
  have HF := Lib.hid (And.intro (show Rm (w2.drew.setRow w.heap.size (vals l).toArray) (w.heap.size + 1) w.heap.size N at' wd l from ⟨hx3, hg3, HM.out.len, HM.out.big, HM.out.top, HM.out.at1⟩) (And.intro bl3 hs3))
  clear hK K2 hHeld hx3 hg3 hb3 bl3 hs3 hr hrow n0 c0
  generalize w2.drew.setRow w.heap.size (vals l).toArray = w4 at HF ⊢
  (try simp only [Act.put, List.setIfInBounds_toArray, List.set_cons_zero, List.set_cons_succ])
  refine mv_calm ?_
  go_wp2
  go_ret
  exact ⟨rfl, HF.out⟩
end
end Go.Proofs.Ytjdedgfbonlmkaa
