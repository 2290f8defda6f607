/- Both memories: Copy, New. -/
import Derived.Test.YtjdedgfbonlmkaaDf
set_option linter.unusedVariables false
set_option linter.unusedSimpArgs false
namespace Go.Proofs.Ytjdedgfbonlmkaa
open Go.RowKit
theorem wp_append_none {P : Program} {w : World} {o : Oper} {a : Act} {K : Act → World → Prop} {Q : Exit → Act → World → Prop} (s x : Operand) (t : TypeId)
    (ho : o.op = .call { callee := .builtin .append, args := #[s, x], argTypes := #[t, t] })
    (base : Nat) (e : TypeId) (i : TypeInfo) (size : Nat) (ht : P.underlying t = some (.slice e)) (hi : P.info? e = some i)
    (v : Value) (n : Nat) (xs : List Value) (hs : a.eval s = v) (hown : w.ownsRow base e size v n xs) (hx : a.eval x = .slice none 0 0)
    (h : K (a.put o.dst v) w) : o.wp P a w K Q := by
  have hrun := run_append_owned_none (P := P) (w := w) base t o.type e i size ht hi v n xs hown
  unfold Oper.wp
  simp [execOp, ho, resolve, invoke, builtin, hs, hx, hrun, Result.andThen]
  exact h
theorem wp_append_ents {w : World} {o : Oper} {a : Act} {K : Act → World → Prop} {Q : Exit → Act → World → Prop} (s x : Operand)
    (ho : o.op = .call { callee := .builtin .append, args := #[s, x], argTypes := #[31, 31] })
    (hs : a.eval s = .slice none 0 0) (L : List Ent) (v : Value) {base : Nat} (hx : a.eval x = v) (hown : w.ownsRow base 44 2 v L.length (ents L)) (hL : L.length ≤ 65536)
    (h : ∀ v' w', w'.ownsRow w.heap.size 44 2 v' L.length (ents L) → Below w.heap.size w w' → K (a.put o.dst v') w') : o.wp Try.prog a w K Q := by
  obtain ⟨i0, hi, iz0, iz1, iz2⟩ := info_parts info44
  rcases hown.2 with ⟨rfl, h0⟩ | ⟨g, cap, cur, rfl, hg, hh, _⟩
  · have hL0 : L = [] := List.eq_nil_of_length_eq_zero h0
    subst hL0
    exact wp_append_none s x 31 ho w.heap.size 44 i0 2 Try.underlying31 hi (.slice none 0 0) 0 [] hs (World.ownsRow_nil _ _ _ _) hx (h _ w (World.ownsRow_nil _ _ _ _) (Below.refl _ _))
  · refine wp_append_own _ s x 31 ho w.heap.size 44 i0 (.agg #[.int .u64 0, .int .u8 0]) 2 16 Try.underlying31 hi iz0 iz1 iz2 rfl (by decide) _ 0 [] hs (World.ownsRow_nil _ _ _ _) ⟨g, 0, none⟩ L.length cap (ents L) hx (ents_len L) (World.ownsRow.cells hown (g := g) rfl) ?c3 ?c4 ?c5 (Nat.le_refl _) ?_
    case c3 =>
      intro u hu
      unfold ents at hu
      rw [List.mem_flatMap] at hu
      obtain ⟨e, _, hu⟩ := hu
      simp at hu
      rcases hu with rfl | rfl <;> rfl
    case c4 => unfold maxLen; omega
    case c5 => omega
    intro v' w' hown' hgr _
    rw [Nat.zero_add, List.nil_append] at hown'
    exact h v' w' hown' ((Below.refl _ _).grown hgr (Nat.le_refl _) (fun k hk => by simp [Value.ownBlock] at hk))
section
variable {w w' : World} {C N at' wd base : Nat} {l : List UInt8} {L : List Ent} {v : Value}
set_option maxHeartbeats 2000000 in
theorem dcopy_any (h : Dm w C N at' wd l base L v) : Calls Try.prog 14 #[.pointer (some ⟨C, 0, none⟩)] w fun e w' => e = .returned (.pointer (some ⟨w.heap.size, 0, none⟩)) ∧ (∃ v', Dm w' w.heap.size N at' wd l base L v') ∧ Below w.heap.size w w' ∧ w.heap.size < w'.heap.size := by
  obtain ⟨av, cap, rfl, _⟩ := own_row h.own
  have c0 : w.cell? ⟨C, 0, none⟩ = some (.int .u64 N) := h.box.read 0
  have c1 : w.cell? ⟨C, 1, none⟩ = some (.slice av L.length cap) := h.box.read 1
  have c2 : w.cell? ⟨C, 2, none⟩ = some (.int .u64 at') := h.box.read 2
  have c3 : w.cell? ⟨C, 3, none⟩ = some (.int .i64 wd) := h.box.read 3
  have HQ := Lib.hid h
  have hCl := h.box.inHeap
  have hL := h.lN
  clear h
  go_enter Try.func14, Try.ntmps14
  go_wp2
  refine wp_region_calm (fun w' => w'.cell? ⟨C, 0, none⟩ = some (.int .u64 N) ∧ w'.cell? ⟨C, 2, none⟩ = some (.int .u64 at') ∧ w'.cell? ⟨C, 3, none⟩ = some (.int .i64 wd))
    (.e 0 :: .e 0 :: .e 0 :: .e 0 :: .e 0 :: .e 0 :: .e 0 :: .e 0 :: .e 0 :: .e 0 :: .e 0 :: .e 0 :: .e 0 :: .l 0 :: .e 0 :: []) (by kernel_rfl) (by kernel_rfl) (by kernel_rfl) (by kernel_rfl) ?_
  have hHeld : (w.drew.cell? ⟨C, 0, none⟩ = some (.int .u64 N) ∧ w.drew.cell? ⟨C, 2, none⟩ = some (.int .u64 at') ∧ w.drew.cell? ⟨C, 3, none⟩ = some (.int .i64 wd)) := ⟨c0, c2, c3⟩
  repeat (refine mv_take0 (v := ?_) (by rfl) hHeld ?_ ?_; rotate_left 1; (focus (intro w hSw; (try dsimp only at hSw); obtain ⟨g0, g1, g2⟩ := hSw; go_simp; (try with_reducible rfl); done)); (try simp only [Act.put, List.setIfInBounds_toArray, List.set_cons_zero, List.set_cons_succ]))
  refine mv_loud0 (by rfl) (fun K2 hK => ?_)
  go_simp
  have hx2 : Box (w.alloc (.cells #[.int .u64 N, .slice none 0 0, .int .u64 at', .int .i64 wd] 33)).drew w.heap.size 33 #[.int .u64 N, .slice none 0 0, .int .u64 at', .int .i64 wd] := (Box.made w 33 _).drawn1
  have bl2 : Below w.heap.size w (w.alloc (.cells #[.int .u64 N, .slice none 0 0, .int .u64 at', .int .i64 wd] 33)).drew := ((Below.refl _ w).alloc (Nat.le_refl _) _).drew
  have hq2 := HQ.out.over bl2
  have hs2 : (w.alloc (.cells #[.int .u64 N, .slice none 0 0, .int .u64 at', .int .i64 wd] 33)).drew.heap.size = w.heap.size + 1 := by simp
  have H2 := Lib.hid (And.intro hx2 (And.intro bl2 (And.intro hq2 hs2)))
  clear hx2 bl2 hq2 hs2
  generalize (w.alloc (.cells #[.int .u64 N, .slice none 0 0, .int .u64 at', .int .i64 wd] 33)).drew = w2 at H2 ⊢
  have hHeld2 : (w2.cell? ⟨C, 0, none⟩ = some (.int .u64 N) ∧ w2.cell? ⟨C, 2, none⟩ = some (.int .u64 at') ∧ w2.cell? ⟨C, 3, none⟩ = some (.int .i64 wd)) := ⟨H2.out.2.2.1.box.read 0, H2.out.2.2.1.box.read 2, H2.out.2.2.1.box.read 3⟩
  refine hK.out _ _ hHeld2 ?_
  clear hK K2 hHeld
  have hHeld := hHeld2
  clear hHeld2
  (try simp only [Act.put, List.setIfInBounds_toArray, List.set_cons_zero, List.set_cons_succ])
  repeat (refine mv_take0 (v := ?_) (by rfl) hHeld ?_ ?_; rotate_left 1; (focus (intro w hSw; (try dsimp only at hSw); obtain ⟨g0, g1, g2⟩ := hSw; go_simp; (try with_reducible rfl); done)); (try simp only [Act.put, List.setIfInBounds_toArray, List.set_cons_zero, List.set_cons_succ]))
  refine mv_calm ?_
  clear hHeld c0 c1 c2 c3
  have c1 : w2.cell? ⟨C, 1, none⟩ = some (.slice av L.length cap) := H2.out.2.2.1.box.read 1
  have n1 : w2.cell? ⟨w.heap.size, 1, none⟩ = some (.slice none 0 0) := H2.out.1.read 1
  go_wp2
  refine wp_region_moves_then 12 (fun w' => w'.cell? ⟨w.heap.size, 1, none⟩ = some (.slice none 0 0) ∧ w'.cell? ⟨C, 1, none⟩ = some (.slice av L.length cap))
    (.e 0 :: .e 0 :: .e 0 :: .e 0 :: .e 0 :: .e 0 :: .e 0 :: .e 0 :: .e 0 :: .l 0 :: .e 0 :: .e 0 :: []) (by kernel_rfl) (by kernel_rfl) (by kernel_rfl) (by kernel_rfl) (by kernel_rfl) (by kernel_rfl) ?_
  simp only [List.take_succ_cons, List.take_zero, List.drop_succ_cons, List.drop_zero]
  have hHeld : (w2.drew.cell? ⟨w.heap.size, 1, none⟩ = some (.slice none 0 0) ∧ w2.drew.cell? ⟨C, 1, none⟩ = some (.slice av L.length cap)) := ⟨n1, c1⟩
  repeat (refine mv_take0 (v := ?_) (by rfl) hHeld ?_ ?_; rotate_left 1; (focus (intro w hSw; (try dsimp only at hSw); obtain ⟨g0, g1⟩ := hSw; go_simp; (try with_reducible rfl); done)); (try simp only [Act.put, List.setIfInBounds_toArray, List.set_cons_zero, List.set_cons_succ]))
  refine mv_loud0 (by rfl) (fun K2 hK => ?_)
  have hm := hK
  refine wp_append_ents _ _ rfl rfl L _ rfl (base := base) (H2.out.2.2.1.own.drew) hL ?_
  intro v3 w3 hown3 hb3
  have hs2 := H2.out.2.2.2
  have hx3 : Box w3 w.heap.size 33 #[.int .u64 N, .slice none 0 0, .int .u64 at', .int .i64 wd] := H2.out.1.drawn1.over hb3 (by have := H2.out.1.inHeap; exact this)
  have hq3 := (H2.out.2.2.1.over (Below.refl _ _).drew).over hb3
  have hbel3 : Below w.heap.size w w3 := H2.out.2.1.drew.trans (hb3.mono (by have := hs2; show w.heap.size ≤ w2.heap.size; omega))
  have hHeld := And.intro (hx3.read 1) (hq3.box.read 1)
  refine hK.out _ _ hHeld ?_
  clear hm hK K2
  (try simp only [Act.put, List.setIfInBounds_toArray, List.set_cons_zero, List.set_cons_succ])
  repeat (refine mv_take0 (v := ?_) (by rfl) hHeld ?_ ?_; rotate_left 1; (focus (intro w hSw; (try dsimp only at hSw); obtain ⟨g0, g1⟩ := hSw; go_simp; (try with_reducible rfl); done)); (try simp only [Act.put, List.setIfInBounds_toArray, List.set_cons_zero, List.set_cons_succ]))
  refine mv_then ?_
  have e1 := hx3.read 1
  have g1 := hx3.warm 1
  obtain ⟨a3, cap3, rfl⟩ := own_shape1 hown3
  have H3 := Lib.hid (And.intro hx3 (And.intro (own_mono hown3 (show base ≤ w2.drew.heap.size from H2.out.2.2.1.hb)) hbel3))
  clear hHeld hx3 hq3 hown3 hb3 hbel3 n1 c1
  go_wp2
  refine NoPanic.normal ?_
  clear e1 g1
  have hfin : Dm (w3.setCell ⟨w.heap.size, 1, none⟩ (.slice a3 L.length cap3)) w.heap.size N at' wd l base L (.slice a3 L.length cap3) := ⟨box_eq (H3.out.1.put 1 _) rfl, own_put H3.out.2.1 H3.out.1 (by decide) 1 _, HQ.out.md, HQ.out.len, HQ.out.top, HQ.out.at1, by have h1 := HQ.out.hb; have h2 := H3.out.2.2.size; simp [World.setCell]; omega⟩
  have hbelf : Below w.heap.size w (w3.setCell ⟨w.heap.size, 1, none⟩ (.slice a3 L.length cap3)) := H3.out.2.2.setCell (p := ⟨w.heap.size, 1, none⟩) (Nat.le_refl _) _
  have HF := Lib.hid (And.intro hfin hbelf)
  clear hfin hbelf
  generalize w3.setCell ⟨w.heap.size, 1, none⟩ (.slice a3 L.length cap3) = w4 at HF ⊢
  go_wp2
  go_ret
  exact ⟨rfl, ⟨_, HF.out.1⟩, HF.out.2, HF.out.1.box.inHeap⟩
end
theorem new_any (p : Nat) (h1 : 1 ≤ p) (h2 : p ≤ 16) (w : World) : Calls Try.prog 8 #[.int .i64 p] w fun e w' => e = .returned (.pointer (some ⟨w.heap.size + 1, 0, none⟩)) ∧ Rm w' (w.heap.size + 1) w.heap.size (p * 4096) 0 0 (List.replicate (p * 4096) 0) ∧ Below w.heap.size w w' ∧ w'.heap.size = w.heap.size + 2 := by
  obtain ⟨i0, hi, iz0, iz1, iz2⟩ := info_parts info5
  have hmk := run_make (P := Try.prog) w 45 5 i0 (.int .u8 0) Try.underlying45 hi iz0 .i64 .i64 ((p : Int) * 4096) ((p : Int) * 4096) (by omega) (by omega) (by rw [iz2]; omega) (by omega)
  have hpn : ((p : Int) * 4096).toNat = p * 4096 := by omega
  rw [iz1, Nat.mul_one, show (Value.int .u8 0).cells = #[.int .u8 0] from rfl, hpn, made_vals] at hmk
  have hw1 : IntKind.i64.wrap ((p : Int) * 4096) = (p : Int) * 4096 := IntWalk.i64_in _ (by omega)
  generalize hM : List.replicate (p * 4096) (0 : UInt8) = M at hmk ⊢
  have hMl : M.length = p * 4096 := by rw [← hM]; exact List.length_replicate
  have HP : Hid (Rm ((w.alloc (.cells (vals M).toArray 5)).alloc (.cells (oneBox w.heap.size (p * 4096)) 65)) (w.heap.size + 1) w.heap.size (p * 4096) 0 0 M ∧ Below w.heap.size w ((w.alloc (.cells (vals M).toArray 5)).alloc (.cells (oneBox w.heap.size (p * 4096)) 65)) ∧ ((w.alloc (.cells (vals M).toArray 5)).alloc (.cells (oneBox w.heap.size (p * 4096)) 65)).heap.size = w.heap.size + 2) := by
    have hz : (w.alloc (.cells (vals M).toArray 5)).heap.size = w.heap.size + 1 := by simp
    refine ⟨⟨?_, (Box.made w 5 _).more _, hMl, by omega, by omega, by omega⟩, ((Below.refl _ _).alloc (Nat.le_refl _) _).alloc (by simp) _, by simp⟩
    rw [← hz]
    exact Box.made _ 65 _
  clear hM hMl
  go_enter Try.func8, Try.ntmps8
  go_wp2_with (refine wpList_build_to rfl 65 _ rfl (oneBox w.heap.size (p * 4096)) (by kernel_rfl) ?_)
  go_ret
  exact ⟨rfl, HP.out⟩
theorem new_none (p : Int) (h : ¬ (1 ≤ p ∧ p ≤ 16)) (w : World) : Calls Try.prog 8 #[.int .i64 p] w fun e w' => e = .returned (.pointer none) ∧ w = w' := by
  by_cases h1 : p < 1
  · clear h
    go_enter Try.func8, Try.ntmps8
    go_wp2
    go_ret
    exact ⟨rfl, rfl⟩
  · have h2 : 16 < p := by omega
    clear h
    go_enter Try.func8, Try.ntmps8
    go_wp2
    go_ret
    exact ⟨rfl, rfl⟩
end Go.Proofs.Ytjdedgfbonlmkaa
