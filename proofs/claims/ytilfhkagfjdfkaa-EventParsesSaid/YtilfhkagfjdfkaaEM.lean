/- The document's may, greatest, Why, One. -/
import Derived.Test.YtilfhkagfjdfkaaEI
import Derived.Test.YtilfhkagfjdfkaaHq
set_option linter.unusedVariables false
set_option linter.unusedSimpArgs false
namespace Go.Proofs.Ytilfhkagfjdfkaa
open Go.RowKit
attribute [local go_sem] Oper.semAt_some
theorem may_any (e : Ev) (he : e.wf) (w : World) : Calls Try.prog 43 #[.agg (evA e)] w fun r w' => r = .returned (.bool (mayB e)) ∧ Below w.heap.size w w' := by
  obtain ⟨t, g, k, v⟩ := e
  obtain ⟨ht, hg, hk, hv⟩ := he
  simp only at ht hg hk hv
  have HX := Lib.hid (Box.made w 46 #[.int .u32 t, .int .u8 g, .int .u8 k, .int .u32 v])
  have T0 : Hid (Below w.heap.size w (w.alloc (.cells #[.int .u32 t, .int .u8 g, .int .u8 k, .int .u32 v] 46))) := Lib.hid ((Below.refl _ _).alloc (Nat.le_refl _) _)
  have c2 := HX.out.read 2
  have c3 := HX.out.read 3
  simp only [List.getElem?_toArray, List.getElem?_cons_zero, List.getElem?_cons_succ] at c2 c3
  unfold mayB
  simp only
  by_cases h1 : k = 1
  · subst h1
    rw [if_pos rfl]
    go_enter Try.func43, Try.ntmps43
    go_wp2
    go_ret
    exact ⟨by simp; omega, T0.out⟩
  · rw [if_neg h1]
    have e1 : ((k : Int) == 1) = false := beq_eq_false_iff_ne.2 (by omega)
    by_cases h2 : k = 2
    · subst h2
      rw [if_pos rfl]
      by_cases h8 : 8 ≤ v
      · have v8 : (8 : Int) ≤ (v : Int) := by omega
        go_enter Try.func43, Try.ntmps43
        go_wp2
        go_ret
        exact ⟨by simp [h8]; omega, T0.out⟩
      · have v8 : ¬ (8 : Int) ≤ (v : Int) := by omega
        go_enter Try.func43, Try.ntmps43
        go_wp2
        go_ret
        exact ⟨by simp [h8], T0.out⟩
    · rw [if_neg h2]
      have e2 : ((k : Int) == 2) = false := beq_eq_false_iff_ne.2 (by omega)
      by_cases h3 : k = 3
      · subst h3
        rw [if_pos rfl]
        go_enter Try.func43, Try.ntmps43
        go_wp2
        go_ret
        exact ⟨by simp; omega, T0.out⟩
      · rw [if_neg h3]
        have e3 : ((k : Int) == 3) = false := beq_eq_false_iff_ne.2 (by omega)
        clear h1 h2 h3
        go_enter Try.func43, Try.ntmps43
        go_wp2
        go_ret
        exact ⟨rfl, T0.out⟩
/-- The greatest moment of a guest's events. -/
def gr (l : List Ev) (g : Nat) : Nat := l.foldl (fun n e => if e.g = g ∧ n < e.t then e.t else n) 0
theorem gr_snoc (l : List Ev) (e : Ev) (g : Nat) : gr (l ++ [e]) g = if e.g = g ∧ gr l g < e.t then e.t else gr l g := by unfold gr; rw [List.foldl_append]; rfl
theorem gr_lt (g : Nat) : ∀ (l : List Ev) (n : Nat), (∀ e ∈ l, e.wf) → n < 4294967296 → l.foldl (fun n e => if e.g = g ∧ n < e.t then e.t else n) n < 4294967296
  | [], n, _, h => h
  | e :: l, n, hw, h => by
    rw [List.foldl_cons]
    refine gr_lt g l _ (fun x hx => hw x (List.mem_cons_of_mem _ hx)) ?_
    split
    · exact (hw e (List.mem_cons_self ..)).1
    · exact h
theorem great_any (w : World) (v : Value) (l : List Ev) (h : IsEvs w v l) (hl : l.length ≤ 10000) (g : Nat) : Calls Try.prog 44 #[v, .int .u8 g] w fun e w' => e = .returned (.int .u32 (gr l g)) ∧ w' = w := by
  obtain ⟨a, cap, rfl, hwf, hc⟩ := h
  have HC := Lib.hid hc
  have HW := Lib.hid hwf
  clear hc hwf
  obtain ⟨len, hlen⟩ : ∃ len, l.length = len := ⟨_, rfl⟩
  have HL := Lib.hid hlen
  rw [hlen] at hl ⊢
  clear hlen
  go_enter Try.func44, Try.ntmps44
  go_wp2
  go_loop [5, 6] (fun n i => ∃ k : Nat, k ≤ len ∧ i = .int .i64 k ∧ n = .int .u32 (gr (l.take k) g)) (fun _ i => len - (intOf i).toNat)
  case atStart => exact ⟨0, Nat.zero_le _, rfl, rfl⟩
  case round =>
    obtain ⟨k, hk, rfl, rfl⟩ := hrel
    have k1 : (0 : Int) ≤ (k : Int) := Int.natCast_nonneg _
    by_cases hlt : k < len
    · have k2 : (k : Int) < (len : Int) := by omega
      obtain ⟨e, he⟩ : ∃ e, l[k]? = some e := ⟨_, List.getElem?_eq_getElem (by rw [HL.out]; exact hlt)⟩
      obtain ⟨b, off, rfl, hbb, hr⟩ := HC.out k e he
      have c0 : w.cell? ⟨b, off + k * 4, none⟩ = some (.int .u32 e.t) := hr 0 _ rfl
      have c1 : w.cell? ⟨b, off + k * 4 + 1, none⟩ = some (.int .u8 e.g) := hr 1 _ rfl
      have hsn : gr (l.take (k + 1)) g = if e.g = g ∧ gr (l.take k) g < e.t then e.t else gr (l.take k) g := by rw [List.take_add_one, he]; exact gr_snoc _ _ _
      obtain ⟨t, g', k', v⟩ := e
      simp only at c0 c1 hsn
      generalize gr (l.take k) g = m at hsn ⊢
      clear he hr hbb
      by_cases hg : g' = g
      · subst hg
        by_cases ht : m < t
        · have ht2 : (m : Int) < (t : Int) := by omega
          rw [if_pos ⟨rfl, ht⟩] at hsn
          have HS := Lib.hid hsn
          clear hsn
          go_wp2
          go_round
          case rel => exact ⟨k + 1, by omega, by go_num, by rw [HS.out]⟩
          case measure => simp [intOf]; omega
        · have ht2 : ¬ (m : Int) < (t : Int) := by omega
          rw [if_neg (fun q => ht q.2)] at hsn
          have HS := Lib.hid hsn
          clear hsn
          go_wp2
          go_round
          case rel => exact ⟨k + 1, by omega, by go_num, by rw [HS.out]⟩
          case measure => simp [intOf]; omega
      · have hg2 : ((g' : Int) == (g : Int)) = false := beq_eq_false_iff_ne.2 (by omega)
        rw [if_neg (fun q => hg q.1)] at hsn
        have HS := Lib.hid hsn
        clear hsn
        go_wp2
        go_round
        case rel => exact ⟨k + 1, by omega, by go_num, by rw [HS.out]⟩
        case measure => simp [intOf]; omega
    · obtain rfl : k = len := by omega
      go_wp2
      go_ret
      exact ⟨by rw [List.take_of_length_le (by rw [HL.out]; exact Nat.le_refl _)]; rfl, rfl⟩
set_option maxHeartbeats 2000000 in
set_option maxRecDepth 100000 in
theorem why_any (e : Ev) (he : e.wf) (gs : Int) (w : World) (v : Value) (l : List Ev) (h : IsEvs w v l) (hl : l.length ≤ 10000) : Calls Try.prog 30 #[.agg (evA e), .int .i64 gs, v] w fun r w' => r = .returned (.int .u8 (whyN e gs (gr l e.g))) ∧ Below w.heap.size w w' := by
  obtain ⟨bm, hbm⟩ : ∃ b, mayB e = b := ⟨_, rfl⟩
  have HM : Hid (∀ W, Calls Try.prog 43 #[.agg (evA e)] W fun r w' => r = .returned (.bool bm) ∧ Below W.heap.size W w') := Lib.hid fun W => by rw [← hbm]; exact may_any e he W
  obtain ⟨y, hy⟩ : ∃ y, whyN e gs (gr l e.g) = y := ⟨_, rfl⟩
  rw [hy]
  have HY := Lib.hid (And.intro hy hbm)
  clear hy hbm
  have HG := Lib.hid fun (W : World) (hW : IsEvs W v l) => great_any W v l hW hl e.g
  have HV := Lib.hid h
  obtain ⟨t, g, k, val⟩ := e
  obtain ⟨ht, hg, hk, hv⟩ := he
  simp only at ht hg hk hv HG HY
  have g0 : (0 : Int) ≤ (g : Int) := Int.natCast_nonneg _
  have g1 : (g : Int) < 256 := by omega
  have HX := Lib.hid (Box.made w 46 #[.int .u32 t, .int .u8 g, .int .u8 k, .int .u32 val])
  have T0 : Hid (Below w.heap.size w (w.alloc (.cells #[.int .u32 t, .int .u8 g, .int .u8 k, .int .u32 val] 46))) := Lib.hid ((Below.refl _ _).alloc (Nat.le_refl _) _)
  clear h hv ht hk
  go_enter Try.func30, Try.ntmps30
  go_wp2_with (refine wpList_load_row rfl 46 _ rfl w.heap.size rfl 46 #[.int .u32 t, .int .u8 g, .int .u8 k, .int .u32 val] (0, 0) _ HX.out Try.underlying46 rfl (by kernel_rfl) ?_)
  refine (HM.out _).mono ?_
  rintro r w2 ⟨rfl, b2⟩
  have X2 : Hid (Box w2 w.heap.size 46 #[.int .u32 t, .int .u8 g, .int .u8 k, .int .u32 val]) := Lib.hid (HX.out.over b2 HX.out.inHeap)
  have T2 : Hid (Below w.heap.size w w2) := Lib.hid (T0.out.trans (b2.mono T0.out.size))
  clear b2 HX T0
  cases bm
  · go_wp2
    go_ret
    exact ⟨by rw [← HY.out.1]; unfold whyN; rw [if_pos HY.out.2]; rfl, T2.out⟩
  · have hm : ¬ mayB ⟨t, g, k, val⟩ = false := by rw [HY.out.2]; decide
    have HNM := Lib.hid hm
    clear hm
    have c0 := X2.out.read 0
    have c1 := X2.out.read 1
    simp only [List.getElem?_toArray, List.getElem?_cons_zero, List.getElem?_cons_succ] at c0 c1
    by_cases hgs : gs ≤ (g : Int)
    · have HGS := Lib.hid hgs
      go_wp2
      go_ret
      exact ⟨by rw [← HY.out.1]; unfold whyN; rw [if_neg HNM.out, if_pos HGS.out]; rfl, T2.out⟩
    · have HGS := Lib.hid hgs
      go_wp2
      refine wp_region_calm (fun W => W.cell? ⟨w.heap.size, 0, none⟩ = some (.int .u32 t) ∧ W.cell? ⟨w.heap.size, 1, none⟩ = some (.int .u8 g) ∧ Below w.heap.size w W)
        (.e 0 :: .e 0 :: .e 0 :: .e 0 :: .e 0 :: .l 0 :: .e 0 :: []) (by kernel_rfl) (by kernel_rfl) (by kernel_rfl) (by kernel_rfl) ?_
      have hHeld : (w2.drew.cell? ⟨w.heap.size, 0, none⟩ = some (.int .u32 t) ∧ w2.drew.cell? ⟨w.heap.size, 1, none⟩ = some (.int .u8 g) ∧ Below w.heap.size w w2.drew) := ⟨c0, c1, T2.out.drew⟩
      repeat (refine mv_take0 (v := ?_) (by rfl) hHeld ?_ ?_; rotate_left 1; (focus (intro w hSw; (try dsimp only at hSw); obtain ⟨s0, s1, s2⟩ := hSw; go_simp; (try with_reducible rfl); done)); (try simp only [Act.put, List.setIfInBounds_toArray, List.set_cons_zero, List.set_cons_succ]))
      refine mv_loud0 (by rfl) (fun K2 hK => ?_)
      go_simp
      go_at_call 44
      refine (HG.out _ (HV.out.below hHeld.2.2)).mono ?_
      rintro r w3 ⟨rfl, rfl⟩
      refine hK.out _ _ hHeld ?_
      clear hK K2
      (try simp only [Act.put, List.setIfInBounds_toArray, List.set_cons_zero, List.set_cons_succ])
      generalize gr l g = m at HY ⊢
      by_cases hlt : t < m
      · have hlt2 : (t : Int) < (m : Int) := by omega
        have HLT := Lib.hid hlt
        repeat (refine mv_take0 (v := ?_) (by rfl) hHeld ?_ ?_; rotate_left 1; (focus (intro w hSw; (try dsimp only at hSw); obtain ⟨s0, s1, s2⟩ := hSw; go_simp; (try with_reducible rfl); done)); (try simp only [Act.put, List.setIfInBounds_toArray, List.set_cons_zero, List.set_cons_succ]))
        refine mv_calm ?_
        go_wp2
        go_ret
        exact ⟨by rw [← HY.out.1]; unfold whyN; rw [if_neg HNM.out, if_neg (show ¬ gs ≤ ((({ t := t, g := g, k := k, v := val } : Ev).g : Nat) : Int) by have h9 := HGS.out; show ¬ gs ≤ (g : Int); omega), if_pos HLT.out]; rfl, T2.out.drew⟩
      · have hlt2 : ¬ (t : Int) < (m : Int) := by omega
        have HLT := Lib.hid hlt
        repeat (refine mv_take0 (v := ?_) (by rfl) hHeld ?_ ?_; rotate_left 1; (focus (intro w hSw; (try dsimp only at hSw); obtain ⟨s0, s1, s2⟩ := hSw; go_simp; (try with_reducible rfl); done)); (try simp only [Act.put, List.setIfInBounds_toArray, List.set_cons_zero, List.set_cons_succ]))
        refine mv_calm ?_
        go_wp2
        go_ret
        exact ⟨by rw [← HY.out.1]; unfold whyN; rw [if_neg HNM.out, if_neg (show ¬ gs ≤ ((({ t := t, g := g, k := k, v := val } : Ev).g : Nat) : Int) by have h9 := HGS.out; show ¬ gs ≤ (g : Int); omega), if_neg HLT.out]; rfl, T2.out.drew⟩
set_option maxHeartbeats 2000000 in
theorem one_any (s : ByteArray) (hs : s.size = 10) (w : World) : Calls Try.prog 29 #[.string s] w fun e w' => e = .returned (.agg (evA (recEv s.data.toList))) ∧ Below w.heap.size w w' := by
  have b4 : (4 : Nat) < s.size := by omega
  have b5 : (5 : Nat) < s.size := by omega
  have hll : s.data.toList.length = 10 := by rw [← hs]; exact Array.length_toList
  have one (i : Nat) (h : i < s.size) : numL ((s.data.toList.drop i).take 1) = s[i].toNat := by
    rw [List.drop_eq_getElem_cons (by simpa using h), List.take_succ_cons, List.take_zero, numL, numL]
    rfl
  have hx1 : (s.extract 0 4).data.toList = s.data.toList.take 4 := by rw [ex_list, List.drop_zero]
  have hx4 : (s.extract 6 10).data.toList = (s.data.toList.drop 6).take 4 := by rw [ex_list, List.drop_take]
  have hrec : recEv s.data.toList = ⟨numL (s.extract 0 4).data.toList, s[4].toNat, s[5].toNat, numL (s.extract 6 10).data.toList⟩ := by
    unfold recEv
    rw [one 4 b4, one 5 b5, hx1, hx4]
  have n1 : numL (s.extract 0 4).data.toList < 4294967296 := by rw [hx1]; exact numL_tk _ 4
  have n4 : numL (s.extract 6 10).data.toList < 4294967296 := by rw [hx4]; exact numL_tk _ 4
  have K1 := Lib.hid fun W => number_any (s.extract 0 4) (by simp; omega) W
  have K4 := Lib.hid fun W => number_any (s.extract 6 10) (by simp; omega) W
  have HR := Lib.hid hrec
  clear hrec one hx1 hx4 hll
  have y4 : s[4].toNat < 256 := byte_lt _
  have y5 : s[5].toNat < 256 := byte_lt _
  rw [HR.out]
  generalize numL (s.extract 0 4).data.toList = x1 at n1 K1
  generalize numL (s.extract 6 10).data.toList = x4 at n4 K4
  have v1 : IntKind.u32.wrap (x1 : Int) = (x1 : Int) := by show (x1 : Int) % 4294967296 = _; omega
  have v4 : IntKind.u32.wrap (x4 : Int) = (x4 : Int) := by show (x4 : Int) % 4294967296 = _; omega
  have hz4 : (4 : Int) < (s.size : Int) := by omega
  have hz5 : (5 : Int) < (s.size : Int) := by omega
  have hz6 : (4 : Int) ≤ (s.size : Int) := by omega
  have hz10 : (10 : Int) ≤ (s.size : Int) := by omega
  have HX := Lib.hid (Box.made w 46 #[.int .u32 0, .int .u8 0, .int .u8 0, .int .u32 0])
  have T0 : Hid (Below w.heap.size w (w.alloc (.cells #[.int .u32 0, .int .u8 0, .int .u8 0, .int .u32 0] 46))) := Lib.hid ((Below.refl _ _).alloc (Nat.le_refl _) _)
  go_enter Try.func29, Try.ntmps29
  go_wp2
  have hd1 : Hid (Below w.heap.size w (w.alloc (.cells #[.int .u32 0, .int .u8 0, .int .u8 0, .int .u32 0] 46)).drew ∧ Box (w.alloc (.cells #[.int .u32 0, .int .u8 0, .int .u8 0, .int .u32 0] 46)).drew w.heap.size 46 #[.int .u32 0, .int .u8 0, .int .u8 0, .int .u32 0]) := Lib.hid ⟨T0.out.drew, HX.out.drawn1⟩
  refine wp_region_moves_then 13 (fun W => W = (w.alloc (.cells #[.int .u32 0, .int .u8 0, .int .u8 0, .int .u32 0] 46)).drew)
    (.e 0 :: .e 0 :: .e 2 :: .e 2 :: .e 2 :: .e 2 :: .e 2 :: .e 2 :: .l 0 :: .e 0 :: .l 0 :: .e 0 :: .e 0 :: []) (by kernel_rfl) (by kernel_rfl) (by kernel_rfl) (by kernel_rfl) (by kernel_rfl) (by kernel_rfl) ?_
  simp only [List.take_succ_cons, List.take_zero, List.drop_succ_cons, List.drop_zero]
  generalize (w.alloc (.cells #[.int .u32 0, .int .u8 0, .int .u8 0, .int .u32 0] 46)).drew = w1 at hd1 ⊢
  have hHeld : w1 = w1 := rfl
  repeat (first
    | (refine mv_take0 (v := ?_) (by rfl) hHeld ?_ ?_; rotate_left 1; (focus (intro w hSw; (try dsimp only at hSw); go_simp; (try with_reducible rfl); done)); (try simp only [Act.put, List.setIfInBounds_toArray, List.set_cons_zero, List.set_cons_succ]))
    | (refine mv_take2 (v := ?_) (by rfl) hHeld ?_ ?_; rotate_left 1; (focus (intro w hSw; (try dsimp only at hSw); go_simp; (try with_reducible rfl); done)); (try simp only [Act.put, List.setIfInBounds_toArray, List.set_cons_zero, List.set_cons_succ])))
  refine mv_loud0 (by rfl) (fun K2 hK => ?_)
  go_simp
  go_at_call 42
  refine (K1.out _).mono ?_
  rintro r w3 ⟨rfl, rfl⟩
  refine hK.out _ _ hHeld ?_
  clear hK K2
  (try simp only [Act.put, List.setIfInBounds_toArray, List.set_cons_zero, List.set_cons_succ])
  repeat (first
    | (refine mv_take0 (v := ?_) (by rfl) hHeld ?_ ?_; rotate_left 1; (focus (intro w hSw; (try dsimp only at hSw); go_simp; (try with_reducible rfl); done)); (try simp only [Act.put, List.setIfInBounds_toArray, List.set_cons_zero, List.set_cons_succ])))
  refine mv_loud0 (by rfl) (fun K2 hK => ?_)
  go_simp
  go_at_call 42
  refine (K4.out _).mono ?_
  rintro r w3 ⟨rfl, rfl⟩
  refine hK.out _ _ hHeld ?_
  clear hK K2
  (try simp only [Act.put, List.setIfInBounds_toArray, List.set_cons_zero, List.set_cons_succ])
  repeat (first
    | (refine mv_take0 (v := ?_) (by rfl) hHeld ?_ ?_; rotate_left 1; (focus (intro w hSw; (try dsimp only at hSw); go_simp; (try with_reducible rfl); done)); (try simp only [Act.put, List.setIfInBounds_toArray, List.set_cons_zero, List.set_cons_succ])))
  refine mv_then ?_
  go_wp2_with (refine wpList_store_box rfl 46 _ _ rfl w.heap.size #[.int .u32 x1, .int .u8 s[4].toNat, .int .u8 s[5].toNat, .int .u32 x4] rfl rfl 46 _ hd1.out.2 (by kernel_rfl) rfl (by rw [← Array.all_toList]; rfl) ?_; intro w6 hb6 hbl6; have H6 := Lib.hid (And.intro hb6 hbl6); clear hb6 hbl6)
  refine NoPanic.normal ?_
  go_wp2
  exact bodyPost_ret (v := .agg #[.int .u32 x1, .int .u8 s[4].toNat, .int .u8 s[5].toNat, .int .u32 x4]) (results_cell_row rfl _ _ w.heap.size 46 #[.int .u32 x1, .int .u8 s[4].toNat, .int .u8 s[5].toNat, .int .u32 x4] (0, 0) _ rfl H6.out.1 Try.underlying46 rfl (by kernel_rfl)) rfl
    ⟨rfl, hd1.out.1.trans H6.out.2⟩
end Go.Proofs.Ytilfhkagfjdfkaa
