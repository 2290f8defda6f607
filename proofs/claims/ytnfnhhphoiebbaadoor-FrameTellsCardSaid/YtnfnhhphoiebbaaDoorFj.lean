/- What the iterator over the windows does, whatever the loop over it. -/
import Derived.Test.YtnfnhhphoiebbaaDoorFi
set_option linter.unusedVariables false
set_option linter.unusedSimpArgs false
namespace Go.Proofs.YtnfnhhphoiebbaaDoor
open Go.RowKit Go.Shelf
attribute [local go_sem] Oper.semAt_some
set_option maxRecDepth 100000 in
set_option maxHeartbeats 4000000 in
theorem iter_win {w : World} {p wb wc bb bo bc : Nat} {l : List Win} (n : Nat) (hn : 1 ≤ n) (X Bn : Nat) (hX : X < w.heap.size) (hBn : Bn < w.heap.size) (hBX : Bn ≠ X) (hpX : p ≠ X) (hwX : wb ≠ X) (hbX : bb ≠ X) (hq : Tb w p wb wc bb bo bc l) (hc : Box w Bn 26 #[.pointer (some ⟨p, 0, none⟩)]) :
    SeqStopsK Fence.wide n Tryd.prog 30 #[.pointer (some ⟨Bn, 0, none⟩)] (fun x : It => #[Value.int .u64 x.a, .agg #[.int .u8 x.g, .int .u16 x.s]]) (KX X) (fun ys => ys = items 0 l) (fun pre => pre <+: items 0 l) l.length w := fun lv J Jx W hW hJ hJx hY h0 => by
  have hq1 : Tb W p wb wc bb bo bc l := hq.over hW (Nat.le_refl _)
  have hb1 : Box W Bn 26 #[.pointer (some ⟨p, 0, none⟩)] := hc.over hW hBn
  have hc1 : W.cell? ⟨Bn, 0, none⟩ = some (.pointer (some ⟨p, 0, none⟩)) := hb1.read 0
  have hd1 : W.cell? ⟨p, 0, none⟩ = some (.slice (some ⟨wb, 0, none⟩) l.length wc) := hq1.box.read 0
  have hsz := hW.size
  have HQ1 := Lib.hid (And.intro hq1 hb1)
  have HM := Lib.hid (made_any hq1)
  have hlen := hq1.n32
  clear hq hq1 hb1 hc
  refine callsIn_of_wp Tryd.func30 rfl trivial ?_ rfl
  simp only [Tryd.ntmps30, List.size_toArray, List.length_cons, List.length_nil, Nat.reduceAdd, Nat.reduceSub, Array.replicate_succ, Array.replicate_zero, List.push_toArray, List.append_toArray, List.nil_append, List.cons_append]
  gi_wp2_with (refine ⟨trivial, ?_⟩; gi_at_call 24; refine (callsIn_wide.2 HM.out).mono ?_; rintro e w' ⟨rfl, rfl⟩)
  gi_loopw [13] (fun i wr => ∃ k : Nat, k ≤ l.length ∧ i = .int .i64 k ∧ J (items 0 (l.take k)) wr ∧ KX X W wr) (fun i _ => l.length - (intOf i).toNat)
  case atStart => exact ⟨0, Nat.zero_le _, rfl, h0, fun _ _ _ _ _ h => h⟩
  case round =>
    obtain ⟨k, hk, rfl, hJk, hkx⟩ := hrel
    have k1 : (0 : Int) ≤ (k : Int) := Int.natCast_nonneg _
    by_cases hlt : k < l.length
    · have k2 : (k : Int) < (l.length : Int) := by omega
      obtain ⟨⟨f1, f2⟩, hkf⟩ : ∃ f, l[k]? = some f := ⟨_, List.getElem?_eq_getElem hlt⟩
      have hqk : Tb wr p wb wc bb bo bc l := HQ1.out.1.kx hkx hpX hwX hbX
      have hbk : Box wr Bn 26 #[.pointer (some ⟨p, 0, none⟩)] := hkx Bn hBX _ _ _ HQ1.out.2
      obtain ⟨c0, c1, c2⟩ := hqk.win hkf
      obtain ⟨b1, b2⟩ := hqk.bnd k _ hkf
      dsimp only at b1 b2 c0 c1
      have hst := hqk.steps hkf
      dsimp only at hst
      have hnx := items_next hkf
      have htk := tot_take hkf
      have HK := Lib.hid (And.intro hnx hkx)
      have HQk := Lib.hid (And.intro hqk hbk)
      clear hqk hbk hkf hnx htk
      gi_wp2
      have hqw : Tb (wr.alloc (.cells #[.int .u8 f1, .int .u16 f2] 51)).drew p wb wc bb bo bc l := HQk.out.1.over (((Below.refl _ wr).alloc (Nat.le_refl _) (.cells #[.int .u8 f1, .int .u16 f2] 51)).drew) (Nat.le_refl _)
      have hcb : (wr.alloc (.cells #[.int .u8 f1, .int .u16 f2] 51)).drew.cell? ⟨bb, bo + k, none⟩ = some (.int .u64 (tot (l.take k) : Nat)) := by
        obtain ⟨cx, bx, _⟩ := HQk.out.1.bbx
        exact ((((Below.refl _ wr).alloc (Nat.le_refl _) (.cells #[.int .u8 f1, .int .u16 f2] 51)).drew).cell (p := ⟨bb, bo + k, none⟩) bx.inHeap).trans c2
      have hbw : Box (wr.alloc (.cells #[.int .u8 f1, .int .u16 f2] 51)).drew Bn 26 #[.pointer (some ⟨p, 0, none⟩)] := (HQk.out.2.more _).drawn1
      have hww : Box (wr.alloc (.cells #[.int .u8 f1, .int .u16 f2] 51)).drew wr.heap.size 51 #[.int .u8 f1, .int .u16 f2] := (Box.made wr 51 _).drawn1
      have hgb : wr.grownBy (wr.alloc (.cells #[.int .u8 f1, .int .u16 f2] 51)).drew none := ⟨rfl, rfl, rfl, by simp, fun k hk _ => Below.heap_alloc wr _ k hk⟩
      have hkw : KX X wr (wr.alloc (.cells #[.int .u8 f1, .int .u16 f2] 51)).drew := KX.below (((Below.refl _ wr).alloc (Nat.le_refl _) _).drew)
      have hJw : J (items 0 (l.take k)) (wr.alloc (.cells #[.int .u8 f1, .int .u16 f2] 51)).drew := hJ _ wr _ none hJk hgb (fun r e => by cases e)
      have hyy := hY (items 0 (l.take k)) (toIt (tot (l.take k)) (f1, f2)) _ hJw (by rw [items_len, List.length_take]; omega)
      have ea : ((toIt (tot (l.take k)) (f1, f2)).a : Int) = (tot (l.take k) : Int) := by simp only [toIt]; omega
      have eg : ((toIt (tot (l.take k)) (f1, f2)).g : Int) = (f1 : Int) := by simp only [toIt]; omega
      have es : ((toIt (tot (l.take k)) (f1, f2)).s : Int) = (f2 : Int) := by simp only [toIt]; omega
      rw [ea, eg, es] at hyy
      have hkx2 : KX X W (wr.alloc (.cells #[.int .u8 f1, .int .u16 f2] 51)).drew := HK.out.2.t hkw
      have HW := Lib.hid (And.intro hkx2 hkx2)
      obtain ⟨fn, tmps, assign, body, hy, hR⟩ := hyy
      clear hJw hkw hgb hJk
      refine wpIn_region_moves_then 9 (fun w' => w'.cell? ⟨Bn, 0, none⟩ = some (.pointer (some ⟨p, 0, none⟩)) ∧ w'.cell? ⟨p, 1, none⟩ = some (.slice (some ⟨bb, bo, none⟩) l.length bc) ∧ w'.cell? ⟨bb, bo + k, none⟩ = some (.int .u64 (tot (l.take k) : Nat)) ∧ w'.cell? ⟨wr.heap.size, 0, none⟩ = some (.int .u8 f1) ∧ w'.cell? ⟨wr.heap.size, 1, none⟩ = some (.int .u16 f2))
        (.e 0 :: .e 0 :: .e 0 :: .e 0 :: .e 0 :: .e 0 :: .e 0 :: .e 0 :: .e 0 :: []) (by kernel_rfl) (by kernel_rfl) (by kernel_rfl) (by kernel_rfl) (by kernel_rfl) (by kernel_rfl) ?_
      simp only [List.take_succ_cons, List.take_zero, List.drop_succ_cons, List.drop_zero]
      have hHeld := And.intro (hbw.read 0) (And.intro (hqw.box.read 1) (And.intro hcb (And.intro (hww.read 0) (hww.read 1))))
      repeat (refine mv_take0 (v := ?_) (by rfl) hHeld ?_ ?_; rotate_left 1; (focus (intro w hSw; (try dsimp only at hSw); obtain ⟨hs0, hs1, hs2, hs3, hs4⟩ := hSw; go_simp; (try with_reducible rfl); done)); (try simp only [Act.put, List.setIfInBounds_toArray, List.set_cons_zero, List.set_cons_succ]))
      refine mv_thenI ?_
      have HLT := Lib.hid hlt
      have HHY := Lib.hid hJ
      clear hHeld hqw hbw hww hcb hkx2 hY hJ h0
      gi_wp2
      refine hR.mono ?_
      rw [← HK.out.1]
      rintro e W3 (⟨rfl, hJ3, hk3⟩ | ⟨rfl, hJx3⟩)
      · have hkx3 := HW.out.1.t hk3
        have H3 := Lib.hid (And.intro hJ3 hkx3)
        clear hJ3 hk3 hkx3 hR hy ea eg es hkx c0 c1 c2 b1 b2 hst HHY hJx hc1 hd1 hsz
        gi_wp2
        go_roundw
        case rel => exact ⟨k + 1, by have := HLT.out; omega, by go_num, H3.out.1, H3.out.2⟩
        case measure =>
          have h9 := HLT.out
          have e1 : (intOf (.int .i64 ((k : Int) + 1))).toNat = k + 1 := by show ((k : Int) + 1).toNat = k + 1; omega
          have e2 : (intOf (.int .i64 (k : Int))).toNat = k := by show ((k : Int)).toNat = k; omega
          rw [e1, e2]
          omega
      · have HX3 := Lib.hid hJx3
        clear hJx3 hR hy ea eg es hkx c0 c1 c2 b1 b2 hst HHY hc1 hd1 hsz
        gi_wp2
        refine bodyPost_ret (results_none rfl _ _ _) rfl ?_
        exact ⟨⟨_, rfl⟩, .inr ⟨_, items_pre 0 l (k + 1), HX3.out⟩⟩
    · have hkl : l.take k = l := List.take_of_length_le (by omega)
      rw [hkl] at hJk
      have HJ := Lib.hid hJk
      clear hJk
      gi_wp2
      go_end0
      exact ⟨⟨_, rfl⟩, .inl ⟨_, rfl, HJ.out⟩⟩
end Go.Proofs.YtnfnhhphoiebbaaDoor
