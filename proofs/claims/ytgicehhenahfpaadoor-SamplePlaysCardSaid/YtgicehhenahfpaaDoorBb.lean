/- The document's Copy. -/
import Derived.Test.YtgicehhenahfpaaDoorBa
import Derived.Test.YtgicehhenahfpaaDoorHp
import Derived.Test.YtgicehhenahfpaaDoorHq
set_option linter.unusedVariables false
set_option linter.unusedSimpArgs false
namespace Go.Proofs.YtgicehhenahfpaaDoor
open Go.RowKit
attribute [local go_sem] Oper.semAt_some
section
variable {w : World} {B H c : Nat} {m v n : Int}
/-- What is copied. -/
structure Src (w : World) (B : Nat) (m v n : Int) (c : Nat) (a : Option Addr) (N cap : Nat) (f : Nat → Msg) : Prop where
  box : Box w B 36 (dch m v n (.slice a N cap))
  each : ∀ i, i < N → ∃ g a' n' cap', a = some ⟨g, 0, none⟩ ∧ (∃ cs, Box w g 59 cs) ∧ w.cell? ⟨g, i * 3, none⟩ = some (.int .u64 (f i).1) ∧ w.cell? ⟨g, i * 3 + 1, none⟩ = some (.string (f i).2.1) ∧ w.cell? ⟨g, i * 3 + 2, none⟩ = some (.slice a' n' cap') ∧ Lane w 3 (.slice a' n' cap') (iv (f i).2.2) ∧ (f i).2.2.length ≤ c
theorem Src.of {t : Nat} {s : ByteArray} {R : List Int} {g k cap : Nat} {xs : List Value} {rv : Value} (h : Dl w B H m v n c t s R g k cap xs rv) : ∃ f : Nat → Msg, f k = (t, s, R) ∧ Src w B m v n c (some ⟨g, 0, none⟩) (k + 1) cap f := by
  have ex : ∀ i, ∃ x : Msg, (i = k → x = (t, s, R)) ∧ (i < k + 1 → ∃ a' n' cap', xs[i * 3]? = some (.int .u64 x.1) ∧ xs[i * 3 + 1]? = some (.string x.2.1) ∧ xs[i * 3 + 2]? = some (.slice a' n' cap') ∧ Lane w 3 (.slice a' n' cap') (iv x.2.2) ∧ x.2.2.length ≤ c) := fun i => by
    by_cases e : i = k
    · subst e
      obtain ⟨a', cap', hs, _⟩ := h.lane.shape
      exact ⟨(t, s, R), fun _ => rfl, fun _ => ⟨a', _, cap', h.x0, h.x1, by rw [← hs]; exact h.x2, by rw [← hs]; exact h.lane, h.hR⟩⟩
    · by_cases hi : i < k + 1
      · obtain ⟨t', s', R', ev, h0, h1, h2, h3, h4, h5⟩ := h.all i hi
        obtain ⟨a', cap', hs, _⟩ := h3.shape
        exact ⟨(t', s', R'), fun e' => absurd e' e, fun _ => ⟨a', _, cap', h0, h1, by rw [← hs]; exact h2, by rw [← hs]; exact h3, h5⟩⟩
      · exact ⟨(0, ⟨#[]⟩, []), fun e' => absurd e' e, fun h' => absurd h' hi⟩
  obtain ⟨f, hf⟩ := Classical.axiomOfChoice ex
  refine ⟨f, (hf k).1 rfl, h.box, fun i hi => ?_⟩
  obtain ⟨a', n', cap', h0, h1, h2, h3, h4⟩ := (hf i).2 hi
  obtain ⟨_, cur, hgb⟩ := own_box h.own
  exact ⟨g, a', n', cap', rfl, ⟨cur, hgb⟩, (World.ownsRow.cellAt h.own (i * 3) (by omega)).trans h0, (World.ownsRow.cellAt h.own (i * 3 + 1) (by omega)).trans h1, (World.ownsRow.cellAt h.own (i * 3 + 2) (by omega)).trans h2, h3, h4⟩
theorem Src.below {a : Option Addr} {N cap : Nat} {f : Nat → Msg} {W : World} (h : Src w B m v n c a N cap f) (hb : Below w.heap.size w W) : Src W B m v n c a N cap f :=
  ⟨h.box.over hb h.box.inHeap, fun i hi => by
    obtain ⟨g, a', n', cap', rfl, ⟨cs, hg⟩, h0, h1, h2, h3, h4⟩ := h.each i hi
    exact ⟨g, a', n', cap', rfl, ⟨cs, hg.over hb hg.inHeap⟩, (hb.cell hg.inHeap).trans h0, (hb.cell hg.inHeap).trans h1, (hb.cell hg.inHeap).trans h2, h3.below hb (Nat.le_refl _), h4⟩⟩
end
section
variable {w : World} {B c : Nat} {m v n : Int} {a : Option Addr} {N cap : Nat} {f : Nat → Msg}
set_option maxHeartbeats 4000000 in
theorem dcopy_all (h : Src w B m v n c a N cap f) (hN : N ≤ c) (hc : c ≤ 1048576) : Calls Tryd.prog 10 #[.pointer (some ⟨B, 0, none⟩)] w fun e w' => ∃ B' sl xs, e = .returned (.pointer (some ⟨B', 0, none⟩)) ∧ Cp w' B' w.heap.size m v n c f N sl xs ∧ w.heap.size ≤ B' ∧ Below w.heap.size w w' := by
  have HS := Lib.hid h
  have c0 : w.drew.cell? ⟨B, 0, none⟩ = some (.int .i64 m) := h.box.drawn1.read 0
  have c1 : w.drew.cell? ⟨B, 1, none⟩ = some (.int .u32 v) := h.box.drawn1.read 1
  have c2 : w.drew.cell? ⟨B, 2, none⟩ = some (.int .i64 n) := h.box.drawn1.read 2
  clear h
  go_enter Tryd.func10, Tryd.ntmps10
  go_wp2
  refine wp_region_calm (fun w' => w'.cell? ⟨B, 0, none⟩ = some (.int .i64 m) ∧ w'.cell? ⟨B, 1, none⟩ = some (.int .u32 v) ∧ w'.cell? ⟨B, 2, none⟩ = some (.int .i64 n))
    (.e 0 :: .e 0 :: .e 0 :: .e 0 :: .e 0 :: .e 0 :: .e 0 :: .e 0 :: .e 0 :: .e 0 :: .e 0 :: .e 0 :: .e 0 :: .l 0 :: .e 0 :: []) (by kernel_rfl) (by kernel_rfl) (by kernel_rfl) (by kernel_rfl) ?_
  have hHeld := And.intro c0 (And.intro c1 c2)
  repeat (refine mv_take0 (v := ?_) (by rfl) hHeld ?_ ?_; rotate_left 1; (focus (intro w hSw; (try dsimp only at hSw); obtain ⟨hs0, hs1, hs2⟩ := hSw; go_simp; (try with_reducible rfl); done)); (try simp only [Act.put, List.setIfInBounds_toArray, List.set_cons_zero, List.set_cons_succ]))
  refine mv_loud0 (by rfl) (fun K2 hK => ?_)
  go_simp
  have hb1 := ((HS.out.box.drawn1).more (.cells #[.int .i64 m, .int .u32 v, .int .i64 n, .slice none 0 0] 36))
  clear hHeld
  have hHeld : _ ∧ _ ∧ _ := ⟨hb1.read 0, hb1.read 1, hb1.read 2⟩
  refine hK.out _ _ hHeld ?_
  clear hK K2
  (try simp only [Act.put, List.setIfInBounds_toArray, List.set_cons_zero, List.set_cons_succ])
  repeat (refine mv_take0 (v := ?_) (by rfl) hHeld ?_ ?_; rotate_left 1; (focus (intro w hSw; (try dsimp only at hSw); obtain ⟨hs0, hs1, hs2⟩ := hSw; go_simp; (try with_reducible rfl); done)); (try simp only [Act.put, List.setIfInBounds_toArray, List.set_cons_zero, List.set_cons_succ]))
  refine mv_calm ?_
  clear c0 c1 c2 hHeld hb1
  have C0 : Cp (w.alloc (.cells #[.int .i64 m, .int .u32 v, .int .i64 n, .slice none 0 0] 36)).drew w.heap.size w.heap.size m v n c f 0 (.slice none 0 0) [] :=
    ⟨(Box.made w 36 _).drawn1, World.ownsRow_nil _ _ _ _, fun i hi => absurd hi (Nat.not_lt_zero i), fun j hj => by omega, fun _ => rfl⟩
  have B0 : Below w.heap.size w (w.alloc (.cells #[.int .i64 m, .int .u32 v, .int .i64 n, .slice none 0 0] 36)).drew := ((Below.refl _ _).alloc (Nat.le_refl _) _).drew
  have hs0 : w.heap.size < (w.alloc (.cells #[.int .i64 m, .int .u32 v, .int .i64 n, .slice none 0 0] 36)).drew.heap.size := by simp
  generalize (w.alloc (.cells #[.int .i64 m, .int .u32 v, .int .i64 n, .slice none 0 0] 36)).drew = w1 at C0 B0 hs0 ⊢
  generalize hB' : w.heap.size = B' at C0 hs0 ⊢
  go_wp2
  go_loopw [4] (fun i wr => ∃ (k : Nat) (sl : Value) (xs : List Value), k ≤ N ∧ i = .int .i64 k ∧ Cp wr B' B' m v n c f k sl xs ∧ Below w.heap.size w wr) (fun i _ => N - (intOf i).toNat)
  case atStart => exact ⟨0, _, _, Nat.zero_le _, rfl, C0, B0⟩
  case round =>
    obtain ⟨k, sl, xs, hk, rfl, hC, hB⟩ := hrel
    clear C0 B0
    have k1 : (0 : Int) ≤ (k : Int) := Int.natCast_nonneg _
    by_cases hlt : k < N
    · obtain ⟨g, a', n', cap', rfl, ⟨cs, hg⟩, h0, h1, h2, hL, hR⟩ := (HS.out.below hB).each k hlt
      have hBr := (HS.out.below hB).box
      have c3 : wr.cell? ⟨B, 3, none⟩ = some (.slice (some ⟨g, 0, none⟩) N cap) := hBr.read 3
      have k2 : (k : Int) < (N : Int) := by omega
      have HC := Lib.hid hC
      have HB := Lib.hid hB
      have HL := Lib.hid hL
      have HHR := Lib.hid hR
      have LC : Hid (∀ W, Below wr.heap.size wr W → W.cell? ⟨B, 3, none⟩ = some (.slice (some ⟨g, 0, none⟩) N cap) ∧ W.cell? ⟨g, k * 3, none⟩ = some (.int .u64 (f k).1) ∧ W.cell? ⟨g, k * 3 + 1, none⟩ = some (.string (f k).2.1) ∧ W.cell? ⟨g, k * 3 + 2, none⟩ = some (.slice a' n' cap')) := Lib.hid fun W hW => ⟨(hBr.over hW hBr.inHeap).read 3, (hW.cell hg.inHeap).trans h0, (hW.cell hg.inHeap).trans h1, (hW.cell hg.inHeap).trans h2⟩
      clear hC hB hL h0 h1 h2 hBr hR
      go_wp2
      clear c3
      refine wp_region_calm (fun W => W.cell? ⟨B, 3, none⟩ = some (.slice (some ⟨g, 0, none⟩) N cap) ∧ W.cell? ⟨g, k * 3, none⟩ = some (.int .u64 (f k).1) ∧ W.cell? ⟨g, k * 3 + 1, none⟩ = some (.string (f k).2.1) ∧ W.cell? ⟨g, k * 3 + 2, none⟩ = some (.slice a' n' cap'))
        (.e 0 :: .e 0 :: .e 0 :: .e 0 :: .e 0 :: .e 0 :: .e 0 :: .e 0 :: .e 0 :: .e 0 :: .e 0 :: .e 0 :: .e 0 :: .e 0 :: .e 0 :: .e 0 :: .e 0 :: .l 0 :: .l 0 :: []) (by kernel_rfl) (by kernel_rfl) (by kernel_rfl) (by kernel_rfl) ?_
      have hHeld := LC.out _ (below_drawn (Below.refl _ wr) 1)
      repeat (refine mv_take0 (v := ?_) (by rfl) hHeld ?_ ?_; rotate_left 1; (focus (intro w hSw; (try dsimp only at hSw); obtain ⟨hs0, hs1, hs2, hs3⟩ := hSw; go_simp; (try with_reducible rfl); done)); (try simp only [Act.put, List.setIfInBounds_toArray, List.set_cons_zero, List.set_cons_succ]))
      refine mv_loud0 (by rfl) (fun K2 hK => ?_)
      go_simp
      have T1 : Hid (Below wr.heap.size wr (wr.alloc (.cells #[.int .u64 0, .string ⟨#[]⟩, .slice none 0 0] 59)).drew) := Lib.hid ((Below.refl _ _).alloc (Nat.le_refl _) _).drew
      clear hHeld
      have hHeld := LC.out _ T1.out
      refine hK.out _ _ hHeld ?_
      clear hK K2
      (try simp only [Act.put, List.setIfInBounds_toArray, List.set_cons_zero, List.set_cons_succ])
      refine mv_loud0 (by rfl) (fun K2 hK => ?_)
      go_simp
      have T2 : Hid (Below wr.heap.size wr (wr.alloc (.cells #[.int .u64 (f k).1, .string (f k).2.1, .slice none 0 0] 59)).drew) := Lib.hid ((Below.refl _ _).alloc (Nat.le_refl _) _).drew
      refine hK.out _ _ (LC.out _ T2.out) ?_
      clear hK K2 hHeld T1
      (try simp only [Act.put, List.setIfInBounds_toArray, List.set_cons_zero, List.set_cons_succ])
      refine mv_calm ?_
      have X2 := Lib.hid ((Box.made wr 59 #[.int .u64 (f k).1, .string (f k).2.1, .slice none 0 0]).drawn1)
      generalize (wr.alloc (.cells #[.int .u64 (f k).1, .string (f k).2.1, .slice none 0 0] 59)).drew = w2 at T2 X2 ⊢
      have T3 : Hid (Below wr.heap.size wr w2.drew) := Lib.hid T2.out.drew
      have X3 := Lib.hid X2.out.drawn1
      go_wp2
      refine wp_region_moves_then 12 (fun W => (W.cell? ⟨B, 3, none⟩ = some (.slice (some ⟨g, 0, none⟩) N cap) ∧ W.cell? ⟨g, k * 3, none⟩ = some (.int .u64 (f k).1) ∧ W.cell? ⟨g, k * 3 + 1, none⟩ = some (.string (f k).2.1) ∧ W.cell? ⟨g, k * 3 + 2, none⟩ = some (.slice a' n' cap')) ∧ W.cell? ⟨wr.heap.size, 2, none⟩ = some (.slice none 0 0))
        (.e 0 :: .e 0 :: .e 0 :: .e 0 :: .e 0 :: .e 0 :: .e 0 :: .e 0 :: .e 0 :: .e 0 :: .l 0 :: .e 0 :: []) (by kernel_rfl) (by kernel_rfl) (by kernel_rfl) (by kernel_rfl) (by kernel_rfl) (by kernel_rfl) ?_
      simp only [List.take_succ_cons, List.take_zero, List.drop_succ_cons, List.drop_zero]
      have hHeld := And.intro (LC.out _ T3.out) (X3.out.read 2)
      repeat (refine mv_take0 (v := ?_) (by rfl) hHeld ?_ ?_; rotate_left 1; (focus (intro w hSw; (try dsimp only at hSw); obtain ⟨⟨hs0, hs1, hs2, hs3⟩, hs4⟩ := hSw; go_simp; (try with_reducible rfl); done)); (try simp only [Act.put, List.setIfInBounds_toArray, List.set_cons_zero, List.set_cons_succ]))
      refine mv_loud0 (by rfl) (fun K2 hK => ?_)
      have hli := HL.out.below T3.out (Nat.le_refl _)
      have hRc := HHR.out
      obtain ⟨i0, hi, iz0, iz1, iz2⟩ := info_parts info3
      refine wp_append_lane _ _ 57 rfl 3 i0 (.int .i64 0) 8 Tryd.underlying57 hi iz0 iz1 iz2 rfl (.slice none 0 0) (.slice a' n' cap') [] (iv (f k).2.2) rfl rfl (Lane.nil _ _) hli ?c1 ?c2 ?c3 ?_
      case c1 => intro u hu; simp only [iv, List.mem_map] at hu; obtain ⟨z, _, rfl⟩ := hu; rfl
      case c2 => simp [iv_len, maxLen]; omega
      case c3 => simp [iv_len]; omega
      intro v2 w5 hl2 hg2 hb2
      obtain ⟨a2, n2, cap2, rfl⟩ : ∃ a n c, v2 = .slice a n c := by
        obtain ⟨a, c, h, _⟩ := hl2.shape
        exact ⟨a, _, c, h⟩
      have T5 : Hid (Below w2.drew.heap.size w2.drew w5) := Lib.hid ⟨hg2.os, hg2.tape, hg2.output, hg2.size, fun k hk => hg2.block k hk (by simp [Value.ownBlock])⟩
      have X5 := Lib.hid (X3.out.over T5.out X3.out.inHeap)
      have T6 : Hid (Below wr.heap.size wr w5) := Lib.hid (T3.out.trans (T5.out.mono T3.out.size))
      have L5 := Lib.hid hl2
      have F5 : Hid (∀ j, (Value.slice a2 n2 cap2).ownBlock = some j → wr.heap.size < j) := Lib.hid fun j hj => by
        rcases hb2 j hj with h1 | h1
        · simp [Value.ownBlock] at h1
        · have := X3.out.inHeap
          omega
      clear hl2 hg2 hb2 hi iz0 iz1 iz2 hli hHeld T5 X3 T3
      have hHeld := And.intro (LC.out _ T6.out) (X5.out.read 2)
      refine hK.out _ _ hHeld ?_
      clear hK K2
      (try simp only [Act.put, List.setIfInBounds_toArray, List.set_cons_zero, List.set_cons_succ])
      repeat (refine mv_take0 (v := ?_) (by rfl) hHeld ?_ ?_; rotate_left 1; (focus (intro w hSw; (try dsimp only at hSw); obtain ⟨⟨hs0, hs1, hs2, hs3⟩, hs4⟩ := hSw; go_simp; (try with_reducible rfl); done)); (try simp only [Act.put, List.setIfInBounds_toArray, List.set_cons_zero, List.set_cons_succ]))
      refine mv_then ?_
      have e2 : w5.cell? ⟨wr.heap.size, 2, none⟩ = some (.slice none 0 0) := X5.out.read 2
      have e2f : w5.frozen? ⟨wr.heap.size, 2, none⟩ = false := X5.out.warm 2
      go_wp2
      refine NoPanic.normal ?_
      have X6 := Lib.hid (box_eq (X5.out.put 2 (.slice a2 n2 cap2)) rfl)
      have T7 : Hid (Below wr.heap.size wr (w5.setCell ⟨wr.heap.size, 2, none⟩ (.slice a2 n2 cap2))) := Lib.hid (T6.out.setCell (Nat.le_refl _) _)
      have L6 := Lib.hid (L5.out.putFar (p := ⟨wr.heap.size, 2, none⟩) X5.out (by decide) (.slice a2 n2 cap2))
      simp only [List.nil_append] at L6
      clear hHeld e2 e2f X5 T6 L5 T2 X2 hRc i0
      generalize w5.setCell ⟨wr.heap.size, 2, none⟩ (.slice a2 n2 cap2) = w6 at X6 T7 L6 ⊢
      have T8 : Hid (Below wr.heap.size wr w6.drew) := Lib.hid T7.out.drew
      have X8 := Lib.hid X6.out.drawn1
      have L8 := Lib.hid (L6.out.drawn1)
      have C8 := Lib.hid (HC.out.below T8.out)
      obtain ⟨a3, cap3, rfl⟩ : ∃ a cp, sl = .slice a k cp := by
        rcases C8.out.own.2 with ⟨e, h⟩ | ⟨g', cap', cur', h', _⟩
        · exact ⟨none, 0, by rw [e, h]⟩
        · exact ⟨_, cap', h'⟩
      go_wp2
      refine wp_region_moves_then 10 (fun W => W.cell? ⟨B', 3, none⟩ = some (.slice a3 k cap3) ∧ W.cell? ⟨wr.heap.size, 0, none⟩ = some (.int .u64 (f k).1) ∧ W.cell? ⟨wr.heap.size, 1, none⟩ = some (.string (f k).2.1) ∧ W.cell? ⟨wr.heap.size, 2, none⟩ = some (.slice a2 n2 cap2))
        (.e 0 :: .e 0 :: .e 0 :: .e 0 :: .e 0 :: .e 0 :: .l 0 :: .l 0 :: .e 0 :: .e 0 :: []) (by kernel_rfl) (by kernel_rfl) (by kernel_rfl) (by kernel_rfl) (by kernel_rfl) (by kernel_rfl) ?_
      simp only [List.take_succ_cons, List.take_zero, List.drop_succ_cons, List.drop_zero]
      have hHeld : _ ∧ _ ∧ _ ∧ _ := ⟨C8.out.box.read 3, X8.out.read 0, X8.out.read 1, X8.out.read 2⟩
      repeat (refine mv_take0 (v := ?_) (by rfl) hHeld ?_ ?_; rotate_left 1; (focus (intro w hSw; (try dsimp only at hSw); obtain ⟨hs0, hs1, hs2, hs3⟩ := hSw; go_simp; (try with_reducible rfl); done)); (try simp only [Act.put, List.setIfInBounds_toArray, List.set_cons_zero, List.set_cons_succ]))
      refine mv_loud0 (by rfl) (fun K2 hK => ?_)
      go_simp
      refine hK.out _ _ ⟨(C8.out.box.more _).read 3, (X8.out.more _).read 0, (X8.out.more _).read 1, (X8.out.more _).read 2⟩ ?_
      clear hK K2
      (try simp only [Act.put, List.setIfInBounds_toArray, List.set_cons_zero, List.set_cons_succ])
      refine mv_loud0 (by rfl) (fun K2 hK => ?_)
      obtain ⟨i0, hi, iz0, iz1, iz2⟩ := info_parts info59
      have hsz8 := T8.out.size
      have hBw : B' ≤ wr.heap.size := by have := HB.out.size; omega
      have hlit : Box (w6.drew.alloc (.cells #[.int .u64 (f k).1, .string (f k).2.1, .slice a2 n2 cap2] 59)) w6.drew.heap.size 59 #[.int .u64 (f k).1, .string (f k).2.1, .slice a2 n2 cap2] := Box.made _ _ _
      refine wp_append_lies _ _ _ 34 rfl B' 59 i0 (.agg #[.int .u64 0, .string ⟨#[]⟩, .slice none 0 0]) 3 48 Tryd.underlying34 hi iz0 iz1 iz2 rfl (by decide) (.slice a3 k cap3) k xs rfl (C8.out.own.alloc _) ⟨w6.heap.size, 0, none⟩ 1 1 [.int .u64 (f k).1, .string (f k).2.1, .slice a2 n2 cap2] rfl rfl ?d1 ?d2 ?d3 ?d4 ?d5 ?d6 _ rfl ?_
      case d1 => exact fun j u hu => ((Lane.lit w6 59 #[.int .u64 (f k).1, .string (f k).2.1, .slice a2 n2 cap2] (by simp [maxLen])).drawn1).cells j u hu
      case d2 => intro u hu; simp at hu; rcases hu with rfl | rfl | rfl <;> rfl
      case d3 => decide
      case d4 => unfold maxLen; omega
      case d5 => omega
      case d6 => have : w6.drew.heap.size ≤ (w6.alloc (.cells #[.int .u64 (f k).1, .string (f k).2.1, .slice a2 n2 cap2] 59)).drew.heap.size := by simp
                 omega
      intro g2 cp2 w9 hown9 hg9 hor9 hlt9
      have hg9' : (w6.drew.alloc (.cells #[.int .u64 (f k).1, .string (f k).2.1, .slice a2 n2 cap2] 59)).grownBy w9 (Value.slice a3 k cap3).ownBlock := hg9
      have nB : (Value.slice a3 k cap3).ownBlock ≠ some B' := own_ne C8.out.own C8.out.box (by decide)
      have nX : (Value.slice a3 k cap3).ownBlock ≠ some wr.heap.size := fun e => by
        have := (HC.out.own.lt _ e).2
        omega
      have b9 : Box w9 B' 36 _ := (hg9'.block B' (C8.out.box.more _).inHeap (fun e => nB e.symm)).trans (C8.out.box.more _)
      have x9 : Box w9 wr.heap.size 59 _ := (hg9'.block wr.heap.size (X8.out.more _).inHeap (fun e => nX e.symm)).trans (X8.out.more _)
      have CN := C8.out.step _ hg9' L8.out (fun b hb => by have := F5.out b hb; omega) (fun ev T h1 ⟨i', hi', hx⟩ b hb e => by
        obtain ⟨_, _, _, ev', _, _, h2, h3, _⟩ := HC.out.all i' hi'
        rw [hx] at h2
        cases h2
        have h4 := h3.lt b hb
        have h5 := F5.out b e
        omega) hown9 HHR.out
      have BN : Below w.heap.size w w9 := ⟨by rw [hg9'.os]; exact T8.out.os.trans HB.out.os, by rw [hg9'.tape]; exact T8.out.tape.trans HB.out.tape, by rw [hg9'.output]; exact T8.out.output.trans HB.out.output, Nat.le_trans (Nat.le_trans HB.out.size (Nat.le_trans T8.out.size (by simp))) hg9'.size, fun j hj => by
        have hjr : j < wr.heap.size := Nat.lt_of_lt_of_le hj HB.out.size
        have hj6 : j < w6.drew.heap.size := Nat.lt_of_lt_of_le hjr T8.out.size
        refine (hg9'.block j (Nat.lt_of_lt_of_le hj6 (by simp)) (fun e => ?_)).trans ((Below.heap_alloc w6.drew _ j hj6).trans ((T8.out.block j hjr).trans (HB.out.block j hj)))
        have := (HC.out.own.lt _ e.symm).1
        omega⟩
      have HN := Lib.hid (And.intro CN (BN.setCell (p := ⟨B', 3, none⟩) (Nat.le_of_eq hB') (.slice (some ⟨g2, 0, none⟩) (k + 1) cp2)))
      clear CN BN hHeld hi iz0 iz1 iz2 hor9 hg9 hown9
      have hHeld : _ ∧ _ ∧ _ ∧ _ := ⟨b9.read 3, x9.read 0, x9.read 1, x9.read 2⟩
      refine hK.out _ _ hHeld ?_
      clear hK K2
      (try simp only [Act.put, List.setIfInBounds_toArray, List.set_cons_zero, List.set_cons_succ])
      repeat (refine mv_take0 (v := ?_) (by rfl) hHeld ?_ ?_; rotate_left 1; (focus (intro w hSw; (try dsimp only at hSw); obtain ⟨hs0, hs1, hs2, hs3⟩ := hSw; go_simp; (try with_reducible rfl); done)); (try simp only [Act.put, List.setIfInBounds_toArray, List.set_cons_zero, List.set_cons_succ]))
      refine mv_then ?_
      have e3 : w9.cell? ⟨B', 3, none⟩ = some (.slice a3 k cap3) := b9.read 3
      have e3f : w9.frozen? ⟨B', 3, none⟩ = false := b9.warm 3
      clear hHeld b9 x9 hg9' nB nX hlt9 hlit hsz8 hBw i0
      go_wp2
      refine NoPanic.normal ?_
      go_wp2
      go_roundw
      case rel => exact ⟨k + 1, _, _, by omega, by go_num, HN.out.1, HN.out.2⟩
      case measure => simp [intOf]; omega
    · obtain rfl : k = N := by omega
      have HD := Lib.hid (And.intro hC hB)
      have c3 : wr.cell? ⟨B, 3, none⟩ = some (.slice a k cap) := (HS.out.below hB).box.read 3
      clear hC hB hlt
      go_wp2
      go_ret
      exact ⟨B', _, _, rfl, by rw [hB']; exact HD.out.1, by omega, HD.out.2⟩

end
end Go.Proofs.YtgicehhenahfpaaDoor
