/- FrameTells: the law's body. -/
import Derived.Test.YtnfnhhphoiebbaaDoorGl
set_option linter.unusedVariables false
set_option linter.unusedSimpArgs false
namespace Go.Proofs.YtnfnhhphoiebbaaDoor
open Go.RowKit Go.Shelf
attribute [local go_sem] Oper.semAt_some
theorem fm_of {w wr : World} {v : Value} {l : List Win} {G : Int} (h : Fw w wr v (fr l)) (hg : Good G l) (hb : ∀ (k : Nat) (f : Win), l[k]? = some f → f.1 < 256 ∧ f.2 < 65536) : ∃ fb fo fc, v = .slice (some ⟨fb, fo, none⟩) (tot l) fc ∧ Fm wr fb fo fc l := by
  have hn : (bv (fr l)).length = tot l := by rw [bv_len, fr_len]
  have hp := hg.pos
  have hbn : ∀ x ∈ fr l, x < 256 := fun x hx => by
    obtain ⟨f, hf, rfl⟩ := fr_mem hx
    obtain ⟨k, hk⟩ := List.mem_iff_getElem?.1 hf
    exact (hb k f hk).1
  have hl := h.lane
  rcases hl with ⟨_, h0⟩ | ⟨g, off, cap, cur, e, hx, l1, l2, l3, l4⟩
  · rw [h0] at hn
    simp at hn
    omega
  · rw [hn] at e l1
    subst e
    have hl := h.lane
    exact ⟨g, off, cap, rfl, hl, hp, hg.top, l1, hbn⟩
theorem act_gen {P : Program} {n : Nat} {C : Code} {Q : Exit → Act → World → Prop} {a : Act} {w : World} (h : ∀ T, T = a.tmps → C.wpIn Fence.wide n P Q { tmps := T, defers := a.defers } w) : C.wpIn Fence.wide n P Q a w := h _ rfl
theorem box_ty {w : World} {b : Nat} {t t' : TypeId} {cs cs' : Array Value} (h : Box w b t cs) (k : Box w b t' cs') : t = t' := by
  have h1 : w.heap[b]? = _ := h
  have h2 : w.heap[b]? = _ := k
  rw [h1] at h2
  cases h2
  rfl
section
variable {w wr : World} {b0 o0 n cap p wb wc bb bo bc fb fo fc n1 : Nat} {l : List Win} {a1 : Option Addr} {A : List (Nat × Nat)}
/-- What is asked of a table and a frame that agree. -/
theorem ft_round (g s : Nat) (hg : g < 256) (hs : s < 18446744073709551616) (hp : ∀ v ∈ l, 0 < v.2) (ht : 0 < tot l) (htop : tot l ≤ 1024) (hb : ∀ x ∈ fr l, x < 256) :
    ∃ (x : Int) (y : Bool) (ow cn : Nat) (xo : Nat), xo < 256 ∧ cn < 18446744073709551616 ∧ ∀ wx, Ft w wx b0 o0 n cap p wb wc bb bo bc fb fo fc l a1 n1 A →
      (Calls Tryd.prog 12 #[.pointer (some ⟨p, 0, none⟩), .int .u8 (g : Nat), .int .u64 (s : Nat)] wx fun e w' => e = .returned (.tuple #[.int .u64 x, .bool y]) ∧ Below wx.heap.size wx w') ∧
      (Calls Tryd.prog 13 #[.slice (some ⟨fb, fo, none⟩) (tot l) fc, .int .u8 (g : Nat), .int .u64 (s : Nat)] wx fun e w' => e = .returned (.tuple #[.int .u64 x, .bool y]) ∧ wx = w') ∧
      (Calls Tryd.prog 14 #[.pointer (some ⟨p, 0, none⟩), .int .u64 (s : Nat)] wx fun e w' => e = .returned (.int .u8 xo) ∧ Below wx.heap.size wx w') ∧
      wx.cell? ⟨fb, fo + s % tot l, none⟩ = some (.int .u8 xo) ∧
      (Calls Tryd.prog 15 #[.pointer (some ⟨p, 0, none⟩), .int .u8 (g : Nat)] wx fun e w' => e = .returned (.int .u64 cn) ∧ Below wx.heap.size wx w') ∧
      (Calls Tryd.prog 16 #[.slice (some ⟨fb, fo, none⟩) (tot l) fc, .int .u8 (g : Nat)] wx fun e w' => e = .returned (.int .u64 cn) ∧ wx = w') ∧
      (Calls Tryd.prog 17 #[.pointer (some ⟨p, 0, none⟩), .int .u8 (g : Nat), .int .u64 (s : Nat)] wx fun e w' => e = .returned (.int .u64 ow) ∧ Below wx.heap.size wx w') ∧
      (Calls Tryd.prog 18 #[.slice (some ⟨fb, fo, none⟩) (tot l) fc, .int .u8 (g : Nat), .int .u64 (s : Nat)] wx fun e w' => e = .returned (.int .u64 ow) ∧ Below wx.heap.size wx w') := by
  obtain ⟨x, y, hxy⟩ := nx_val (g := g) (s := s) hp ht
  have hm := Nat.mod_lt s ht
  refine ⟨x, y, owd l g s, cnt l g, (fr l).getD (s % tot l) 0, ?_, ?_, fun wx h => ⟨?_, ?_, ?_, ?_, ?_, ?_, ?_, ?_⟩⟩
  · have hl : s % tot l < (fr l).length := by rw [fr_len]; exact hm
    rw [List.getD_eq_getElem?_getD, List.getElem?_eq_getElem hl]
    exact hb _ (List.getElem_mem hl)
  · have h1 := cnt_le l g
    omega
  · exact (next_all h.tb hp g s hg hs).mono fun e w' ⟨v, h1, h2, h3⟩ => ⟨by rw [h2, hxy v h1], h3⟩
  · exact (dnext_any h.fm hp g s hg hs).mono fun e w' ⟨v, h1, h2, h3⟩ => ⟨by rw [h2, hxy v h1], h3⟩
  · exact owner_any h.tb s hs
  · exact h.fm.cell hm
  · exact budget_any h.tb g hg
  · exact h.fm.count g hg
  · exact owned_all h.tb g s hg hs
  · exact downed_any h.fm g s hg hs
end
set_option maxRecDepth 200000 in
set_option maxHeartbeats 8000000 in
theorem tells_good (G : Int) (b0 o0 : Nat) (a1 : Option Addr) (n cap n1 cap1 : Nat) (l : List Win) (A : List (Nat × Nat)) (w : World) (hG1 : -9223372036854775808 ≤ G) (hG2 : G ≤ 9223372036854775807) (hn : n ≤ 60) (hn1 : n1 ≤ 40) (hf : IsWins w (some ⟨b0, o0, none⟩) n l) (hA : IsAsks w a1 n1 A) (hc : chk G l = 0) (hN : Nums w) (hJ : JoinIs) : Calls Tryd.prog 3 #[.slice (some ⟨b0, o0, none⟩) n cap, .int .i64 G, .slice a1 n1 cap1] w (Yes w) := by
  have hgd := chk_good hc
  have hbd := tx_bound hf
  have hbn : ∀ x ∈ fr l, x < 256 := fun x hx => by
    obtain ⟨f, hf, rfl⟩ := fr_mem hx
    obtain ⟨k, hk⟩ := List.mem_iff_getElem?.1 hf
    exact (hbd k f hk).1
  have H3 := h2_r3 w (.slice (some ⟨b0, o0, none⟩) n cap)
  have c3 : (H2w w (.slice (some ⟨b0, o0, none⟩) n cap)).cell? ⟨w.heap.size, 0, none⟩ = some (.slice (some ⟨b0, o0, none⟩) n cap) := H3.read 0
  have H33 := Lib.hid H3
  have H6 := Lib.hid (h2_r6 w (.slice (some ⟨b0, o0, none⟩) n cap))
  have H0 := Lib.hid (h2_below w (.slice (some ⟨b0, o0, none⟩) n cap))
  have HD := Lib.hid (dcheck_any G (some ⟨b0, o0, none⟩) n cap l (H2w w (.slice (some ⟨b0, o0, none⟩) n cap)) hG1 hG2 (by omega) (hf.later H0.out))
  rw [hc] at HD
  have HN := Lib.hid (new_ok G b0 o0 n cap l (H2w w (.slice (some ⟨b0, o0, none⟩) n cap)) hG1 hG2 (hf.later H0.out) hc)
  have HF := Lib.hid (fun wx (hb : Below w.heap.size w wx) => frame_any (cap := cap) (hf.later hb) hn hgd.top)
  have HT := Lib.hid (fun wx (hb : Below w.heap.size w wx) => dtext_any (cap := cap) (hf.later hb) hn)
  have HX := Lib.hid (fun wx p wb wc bb bo bc (hb : Below w.heap.size w wx) (ht : Tb wx p wb wc bb bo bc l) => text_any (hN.over hb) hJ ht (fun e => by have := hgd.n1; rw [e] at this; simp at this))
  have HG := Lib.hid (And.intro hgd (And.intro hbd (And.intro hbn (And.intro hf (And.intro hA hN)))))
  have tl0 : (0 : Int) < (tot l : Int) := by have := hgd.pos; omega
  have tl1 : (tot l : Int) ≤ 1024 := by have := hgd.top; omega
  have tw : IntKind.u64.wrap (tot l : Int) = (tot l : Int) := by show (tot l : Int) % 18446744073709551616 = _; omega
  have r0 : ∀ (fn : Fn) (a b : Array Value) (wx : World), (binOp .eql 47 (.func fn a b) .nilFunc).run Tryd.prog wx = .ok (.bool false) wx := fun _ _ _ _ => rfl
  clear hgd hbd hbn hf hA hc hN hJ H3
  refine (callsIn_wide (n := 9)).1 ?_
  refine callsIn_of_wp_marks Tryd.func3 rfl trivial ?_ rfl
  simp only [Tryd.ntmps3, List.size_toArray, List.length_cons, List.length_nil, Nat.reduceAdd, Nat.reduceSub, Array.replicate_succ, Array.replicate_zero, List.push_toArray, List.append_toArray, List.nil_append, List.cons_append]
  refine wpIn_wide.2 ?_
  go_wp2_with (first
    | (go_at_call 5; refine HD.out.mono ?_; rintro e w1 ⟨rfl, rfl⟩)
    | (go_at_call 7; refine HN.out.mono ?_; rintro e w2 ⟨p, wv, bv0, rfl, hnw⟩; have H2 := Lib.hid (H0.out.trans (hnw.bel.mono H0.out.size)); have c4 := (H33.out.over hnw.bel H33.out.inHeap).read 0; have HW2 := Lib.hid hnw; clear hnw)
    | (go_at_call 8; refine (HF.out _ H2.out).mono ?_; rintro e w3 ⟨v, rfl, hfw⟩; have HV := Lib.hid hfw; clear hfw))
  obtain ⟨fb, fo, fc, rfl, hfm⟩ := fm_of HV.out HG.out.1 HG.out.2.1
  obtain ⟨wb, wc, bb, bo, bc, hT⟩ := tb_of HW2.out HG.out.1 HG.out.2.1
  have hft : Ft w w3 b0 o0 n cap p wb wc bb bo bc fb fo fc l a1 n1 A :=
    ⟨((H33.out.over HW2.out.bel H33.out.inHeap).over HV.out.bel (Nat.lt_of_lt_of_le H33.out.inHeap HW2.out.bel.size)), ((H6.out.over HW2.out.bel H6.out.inHeap).over HV.out.bel (Nat.lt_of_lt_of_le H6.out.inHeap HW2.out.bel.size)), hT.over HV.out.bel (Nat.le_refl _), hfm, HG.out.2.2.2.1.later (H2.out.trans (HV.out.bel.mono H2.out.size)), HG.out.2.2.2.2.1.later (H2.out.trans (HV.out.bel.mono H2.out.size)), HG.out.2.2.2.2.2.over (H2.out.trans (HV.out.bel.mono H2.out.size)), H2.out.trans (HV.out.bel.mono H2.out.size)⟩
  have HFT := Lib.hid hft
  clear hft hT hfm HV HW2 H2 HN HF HD c4 c3 H33 H6 H0
  go_wp2_with fail
  refine wp_region_calm (fun w' => w'.cell? ⟨w.heap.size, 0, none⟩ = some (.slice (some ⟨b0, o0, none⟩) n cap)) (.e 0 :: .e 1 :: .e 1 :: .e 1 :: .l 0 :: .e 0 :: .e 0 :: .e 0 :: .e 1 :: .l 0 :: .l 0 :: .e 0 :: .e 0 :: []) (by kernel_rfl) (by kernel_rfl) (by kernel_rfl) (by kernel_rfl) ?_
  have HF1 := Lib.hid (HFT.out.over (Below.refl _ _).drew)
  clear HFT
  have hHeld := HF1.out.r3.read 0
  repeat (first
    | (refine mv_take0 (v := ?_) (by rfl) hHeld ?_ ?_; rotate_left 1; (focus (intro w hSw; (try dsimp only at hSw); have g0 := hSw; go_simp; (try with_reducible rfl); done)); (try simp only [Act.put, List.setIfInBounds_toArray, List.set_cons_zero, List.set_cons_succ]))
    | (refine mv_take1 (v := ?_) (by rfl) hHeld ?_ ?_; rotate_left 1; (focus (intro w hSw; (try dsimp only at hSw); have g0 := hSw; go_simp; (try with_reducible rfl); done)); (try simp only [Act.put, List.setIfInBounds_toArray, List.set_cons_zero, List.set_cons_succ]))
    | (refine mv_loud0 (by rfl) (fun K hK => ?_)
       go_simp
       first
         | (go_at_call 9; refine (length_any HF1.out.tb).mono ?_; rintro e w' ⟨rfl, rfl⟩; refine hK.out _ _ hHeld ?_)
         | (go_at_call 10; refine (HX.out _ p wb wc bb bo bc HF1.out.bel HF1.out.tb).mono ?_; rintro e w4 ⟨rfl, hb⟩; have HF2 := Lib.hid (HF1.out.over hb); clear hb hHeld HF1; have hHeld := HF2.out.r3.read 0; refine hK.out _ _ hHeld ?_)
         | (go_at_call 11; refine (HT.out _ HF2.out.bel).mono ?_; rintro e w5 ⟨rfl, hb⟩; have HF3 := Lib.hid (HF2.out.over hb); clear hb hHeld HF2; have hHeld := HF3.out.r3.read 0; refine hK.out _ _ hHeld ?_)
       clear hK K
       (try simp only [Act.put, List.setIfInBounds_toArray, List.set_cons_zero, List.set_cons_succ])))
  refine mv_calm ?_
  clear HX HT hHeld
  go_wp2_with fail
  go_loopw [10] (fun i wr => ∃ k : Nat, k ≤ n1 ∧ i = .int .i64 k ∧ Ft w wr b0 o0 n cap p wb wc bb bo bc fb fo fc l a1 n1 A) (fun i _ => n1 - (intOf i).toNat)
  case atStart => exact ⟨0, Nat.zero_le _, rfl, HF3.out⟩
  case round =>
    obtain ⟨k, hk, rfl, hst⟩ := hrel
    have k1 : (0 : Int) ≤ (k : Int) := Int.natCast_nonneg _
    have HS := Lib.hid hst
    clear hst HF3
    by_cases hlt : k < n1
    · have k2 : (k : Int) < (n1 : Int) := by omega
      obtain ⟨⟨g, s⟩, hkq⟩ : ∃ q, A[k]? = some q := ⟨_, List.getElem?_eq_getElem (by rw [HS.out.asks.1]; exact hlt)⟩
      obtain ⟨ab, ao, rfl, hab, ca0, ca1, hg8, hs64⟩ := HS.out.asks.2 k _ hkq
      dsimp only at ca0 ca1 hg8 hs64
      have hpos : ∀ v ∈ l, 0 < v.2 := fun v hv => (HG.out.1.ok v hv).2
      obtain ⟨x, y, ow, cn, xo, hxo, hcn, hall⟩ := ft_round (w := w) (b0 := b0) (o0 := o0) (n := n) (cap := cap) (p := p) (wb := wb) (wc := wc) (bb := bb) (bo := bo) (bc := bc) (fb := fb) (fo := fo) (fc := fc) (n1 := n1) (l := l) (a1 := some ⟨ab, ao, none⟩) (A := A) g s hg8 hs64 hpos HG.out.1.pos HG.out.1.top HG.out.2.2.1
      have hmp : s % tot l < tot l := Nat.mod_lt _ HG.out.1.pos
      have hmt : (s : Int).tmod (tot l : Int) = ((s % tot l : Nat) : Int) := rfl
      have hmd : (s : Int) % (tot l : Int) = ((s % tot l : Nat) : Int) := rfl
      generalize s % tot l = rn at hmp hmt hmd hall
      have w4 : IntKind.u64.wrap (rn : Int) = (rn : Int) := by show (rn : Int) % 18446744073709551616 = _; omega
      have r1 : (0 : Int) ≤ (rn : Int) := Int.natCast_nonneg _
      have r2 : (rn : Int) < (tot l : Int) := by omega
      have t3 : ((tot l : Int) == 0) = false := beq_eq_false_iff_ne.2 (by omega)
      have t4 : ¬ ((tot l : Int) = 0) := by omega
      have g1 : (g : Int) < 256 := by omega
      have s1 : (s : Int) < 18446744073709551616 := by omega
      have HA := Lib.hid hall
      have HR1 := Lib.hid (And.intro (HS.out.over ((Below.refl _ wr).alloc (Nat.le_refl _) (.cells #[.int .u8 g, .int .u64 s] 37))) (Box.made wr 37 #[.int .u8 g, .int .u64 s]))
      have HK := Lib.hid hlt
      have q0 := HR1.out.2.read 0
      have q1 := HR1.out.2.read 1
      clear hall hkq hab hmp hlt
      go_wp2_with (first
        | (go_at_call 12; refine (HA.out _ HR1.out.1).1.mono ?_; rintro e w5 ⟨rfl, hb⟩; have HR2 := Lib.hid (And.intro (HR1.out.1.over hb) (HR1.out.2.over hb HR1.out.2.inHeap)); clear hb; have q2 := HR2.out.2.read 0; have q3 := HR2.out.2.read 1)
        | (go_at_call 13; refine (HA.out _ HR2.out.1).2.1.mono ?_; rintro e w' ⟨rfl, rfl⟩))
      clear q0 q1 q2 q3 ca0 ca1
      obtain ⟨tn, htn⟩ : ∃ tn, tn = tot l := ⟨_, rfl⟩
      rw [← htn] at hmt hmd r2 t3 t4 HA tl0 tl1 tw ⊢
      have t5 : ¬ (tn = 0) := by omega
      have t6 : rn < tn := by omega
      have HTN := Lib.hid htn
      clear htn
      have HB1 := Lib.hid (And.intro (HR2.out.1.over (Below.refl _ _).drew) (HR2.out.2.drawn1))
      refine wp_region_calm (fun w' => w'.cell? ⟨wr.heap.size, 0, none⟩ = some (.int .u8 g) ∧ w'.cell? ⟨wr.heap.size, 1, none⟩ = some (.int .u64 s) ∧ w'.cell? ⟨fb, fo + rn, none⟩ = some (.int .u8 xo)) (.e 0 :: .e 0 :: .e 0 :: .e 1 :: .e 1 :: .e 1 :: .e 1 :: .e 1 :: .e 1 :: .e 1 :: .e 1 :: .e 1 :: .l 0 :: .e 0 :: .e 0 :: .e 0 :: .e 0 :: .e 0 :: .e 1 :: .e 1 :: .e 1 :: .l 0 :: .l 0 :: .e 0 :: .e 0 :: .e 0 :: .e 0 :: .e 0 :: .e 0 :: .e 0 :: .e 0 :: .e 1 :: .e 1 :: .e 1 :: .e 1 :: .e 1 :: .l 0 :: .l 0 :: .e 0 :: .e 0 :: .e 0 :: .e 0 :: .e 0 :: .e 0 :: .e 0 :: .e 0 :: .e 0 :: .e 0 :: .e 0 :: .e 0 :: []) (by kernel_rfl) (by kernel_rfl) (by kernel_rfl) (by kernel_rfl) ?_
      have hHeld := And.intro (HB1.out.2.read 0) (And.intro (HB1.out.2.read 1) (HA.out _ HB1.out.1).2.2.2.1)
      repeat (first
        | (refine mv_take0 (v := ?_) (by rfl) hHeld ?_ ?_; rotate_left 1; (focus (intro w hSw; (try dsimp only at hSw); obtain ⟨g0, g1, g2⟩ := hSw; go_simp; (try with_reducible rfl); done)); (try simp only [Act.put, List.setIfInBounds_toArray, List.set_cons_zero, List.set_cons_succ]))
        | (refine mv_take1 (v := ?_) (by rfl) hHeld ?_ ?_; rotate_left 1; (focus (intro w hSw; (try dsimp only at hSw); obtain ⟨g0, g1, g2⟩ := hSw; go_simp; (try with_reducible rfl); done)); (try simp only [Act.put, List.setIfInBounds_toArray, List.set_cons_zero, List.set_cons_succ]))
        | (refine mv_loud0 (by rfl) (fun K hK => ?_)
           go_simp
           first
             | (go_at_call 14; refine (HA.out _ HB1.out.1).2.2.1.mono ?_; rintro e w6 ⟨rfl, hb⟩; have HB2 := Lib.hid (And.intro (HB1.out.1.over hb) (HB1.out.2.over hb HB1.out.2.inHeap)); clear hb hHeld HB1; have hHeld := And.intro (HB2.out.2.read 0) (And.intro (HB2.out.2.read 1) (HA.out _ HB2.out.1).2.2.2.1); refine hK.out _ _ hHeld ?_)
             | (go_at_call 15; refine (HA.out _ HB2.out.1).2.2.2.2.1.mono ?_; rintro e w7 ⟨rfl, hb⟩; have HB3 := Lib.hid (And.intro (HB2.out.1.over hb) (HB2.out.2.over hb HB2.out.2.inHeap)); clear hb hHeld HB2; have hHeld := And.intro (HB3.out.2.read 0) (And.intro (HB3.out.2.read 1) (HA.out _ HB3.out.1).2.2.2.1); refine hK.out _ _ hHeld ?_)
             | (go_at_call 16; refine (HA.out _ HB3.out.1).2.2.2.2.2.1.mono ?_; rintro e w' ⟨rfl, rfl⟩; refine hK.out _ _ hHeld ?_)
             | (go_at_call 17; refine (HA.out _ HB3.out.1).2.2.2.2.2.2.1.mono ?_; rintro e w8 ⟨rfl, hb⟩; have HB4 := Lib.hid (And.intro (HB3.out.1.over hb) (HB3.out.2.over hb HB3.out.2.inHeap)); clear hb hHeld HB3; have hHeld := And.intro (HB4.out.2.read 0) (And.intro (HB4.out.2.read 1) (HA.out _ HB4.out.1).2.2.2.1); refine hK.out _ _ hHeld ?_)
             | (go_at_call 18; refine (HA.out _ HB4.out.1).2.2.2.2.2.2.2.mono ?_; rintro e w9 ⟨rfl, hb⟩; have HB5 := Lib.hid (And.intro (HB4.out.1.over hb) (HB4.out.2.over hb HB4.out.2.inHeap)); clear hb hHeld HB4; have hHeld := And.intro (HB5.out.2.read 0) (And.intro (HB5.out.2.read 1) (HA.out _ HB5.out.1).2.2.2.1); refine hK.out _ _ hHeld ?_)
           clear hK K
           (try simp only [Act.put, List.setIfInBounds_toArray, List.set_cons_zero, List.set_cons_succ])))
      refine mv_calm ?_
      clear hHeld
      have htn := HTN.out
      clear HTN
      subst htn
      go_wp2_with fail
      go_roundw
      case rel => exact ⟨k + 1, by have := HK.out; omega, by go_num, HB5.out.1⟩
      case measure => simp [intOf]; have := HK.out; omega
    · have k2 : ¬ ((k : Int) < (n1 : Int)) := by omega
      go_wp2_with (go_at_call 19; refine (windows_any p _).mono ?_; rintro e w' ⟨rfl, rfl⟩)
      have HS1 := HS.out
      have hpz : p ≠ w.heap.size + 1 := fun e => by have h1 := HS1.tb.box; rw [e] at h1; exact absurd (box_ty h1 HS1.r6) (by decide)
      have hwz : wb ≠ w.heap.size + 1 := fun e => by obtain ⟨_, h1, _⟩ := HS1.tb.wbx; rw [e] at h1; exact absurd (box_ty h1 HS1.r6) (by decide)
      have hbz : bb ≠ w.heap.size + 1 := fun e => by obtain ⟨_, h1, _⟩ := HS1.tb.bbx; rw [e] at h1; exact absurd (box_ty h1 HS1.r6) (by decide)
      have hzl := HS1.r6.inHeap
      obtain ⟨KX, hKX⟩ : ∃ KX, KX = wr.heap.size + 1 := ⟨_, rfl⟩
      obtain ⟨AX, hAX⟩ : ∃ AX, AX = wr.heap.size + 1 + 1 := ⟨_, rfl⟩
      obtain ⟨v0, hv0⟩ : ∃ v0, v0 = wr.alloc (.cells #[.pointer (some ⟨p, 0, none⟩)] 26) := ⟨_, rfl⟩
      obtain ⟨v2, hv2⟩ : ∃ v2, v2 = (v0.alloc (.cells #[.int .i64 0] 3)).alloc (.cells #[.int .u64 0] 32) := ⟨_, rfl⟩
      have hb0 : Below wr.heap.size wr v0 := by rw [hv0]; exact (Below.refl _ wr).alloc (Nat.le_refl _) _
      have hs0 : v0.heap.size = KX := by rw [hv0, hKX]; simp
      have hb2 : Below v0.heap.size v0 v2 := by rw [hv2]; exact ((Below.refl _ v0).alloc (Nat.le_refl _) _).alloc (by simp) _
      have hs2 : v2.heap.size = KX + 2 := by rw [hv2]; simp [hs0]
      have hxk : Box v2 KX 3 #[.int .i64 0] := by rw [hv2, ← hs0]; exact (Box.made v0 3 _).more _
      have hxa : Box v2 AX 32 #[.int .u64 0] := by
        have := Box.made (v0.alloc (.cells #[.int .i64 0] 3)) 32 #[.int .u64 0]
        rw [World.size_alloc, hs0] at this
        rw [hv2, hAX, ← hKX]; exact this
      have hxn : Box v0 wr.heap.size 26 #[.pointer (some ⟨p, 0, none⟩)] := by rw [hv0]; exact Box.made wr 26 _
      have hf0 := HS1.over hb0
      have hAK : AX = KX + 1 := by omega
      rw [← hv0, ← hv2, ← hKX, ← hAK]
      have HV2 := Lib.hid (And.intro hb0 (And.intro hs0 (And.intro hb2 (And.intro hs2 (And.intro hKX hAX)))))
      have K1 : wr.heap.size + 1 ≤ KX := by omega
      have K2 : KX ≤ wr.heap.size + 1 := by omega
      have A1 : KX + 1 ≤ AX := by omega
      have A2 : AX ≤ KX + 1 := by omega
      have S1 : v0.heap.size ≤ KX := by omega
      have S2 : KX ≤ v0.heap.size := by omega
      have S3 : v2.heap.size ≤ KX + 2 := by omega
      have S4 : KX + 2 ≤ v2.heap.size := by omega
      clear hv0 hv2 hb0 HS1 hKX hAX hAK hs0 hs2
      refine (wpIn_wide (n := 9)).1 ?_
      refine act_gen ?_
      intro T hT
      refine wpIn_rangeFunc_ownH rfl (by omega) (gf := 30) (lb := #[.pointer (some ⟨wr.heap.size, 0, none⟩)]) (by rw [hT]; rfl) trivial (enters_of Tryd.func30 (by kernel_rfl) rfl)
        (iter_winL (n := 8) (by omega) (w.heap.size + 1) wr.heap.size (by omega) (by omega) (by omega) hpz hwz hbz hf0.tb hxn) KL.t (KL.b (m := v2.heap.size)) hb2 (fun _ => rfl)
        (fun pre W => Box W KX 3 #[.int .i64 pre.length] ∧ Box W AX 32 #[.int .u64 (sumS pre : Nat)] ∧ Below KX v2 W)
        (fun (_ : Code) (pre : List It) (_ : World) => ∃ (pre' : List It) (x : It), pre = pre' ++ [x] ∧ ¬ (x.a = sumS pre' ∧ ∃ f, l[pre'.length]? = some f ∧ x.g = f.1 ∧ x.s = f.2))
        (OwnFrom.and (box_ownF _ KX 3 (fun pre : List It => #[.int .i64 pre.length])) (OwnFrom.and (box_ownF _ AX 32 (fun pre : List It => #[.int .u64 (sumS pre : Nat)])) (ownFrom_below (by omega) (by omega))))
        (fun _ _ _ _ _ hs _ _ => hs)
        ⟨hxk, hxa, Below.refl _ _⟩
        (fun x a' W => ∃ q, a' = { tmps := (((T.setIfInBounds 146 (.int .u64 x.a)).setIfInBounds 147 (.agg #[.int .u8 x.g, .int .u16 x.s])).setIfInBounds 19 (.int .u64 x.a)).setIfInBounds 20 (.pointer (some ⟨q, 0, none⟩)), defers := [] } ∧ AX < q ∧ Box W q 51 #[.int .u8 x.g, .int .u16 x.s])
        (fun x a' s W W' row ⟨q, e, hq, hb⟩ hg hr => ⟨q, e, hq, box_ownF v2.heap.size q 51 (fun _ : Unit => #[.int .u8 x.g, .int .u16 x.s]) s W W' row hb hg hr⟩)
        ?assign ?body ?done ?stop
      case assign =>
        rintro lv pre x W K ⟨hbk, hba, hB⟩ hK
        have HK := Lib.hid hK
        have HB := Lib.hid (And.intro hbk (And.intro hba hB))
        clear hK hbk hba hB
        subst hT
        gi_wp2
        refine HK.out _ _ ((KeepsOthers.alloc _ _).from _) (KL.below ((Below.refl _ W).alloc (Nat.le_refl _) _)) ⟨HB.out.1.more _, HB.out.2.1.more _, HB.out.2.2.alloc (Nat.le_of_lt HB.out.1.inHeap) _⟩ ⟨W.heap.size, rfl, HB.out.2.1.inHeap, Box.made W 51 _⟩
      case body =>
        rintro lv pre x a' W _ _ ⟨hbk, hba, hB⟩ ⟨q, rfl, hqX, hbq⟩ hpl
        have hFW : Ft w W b0 o0 n cap p wb wc bb bo bc fb fo fc l a1 n1 A := HS.out.over ((HV2.out.1.trans (HV2.out.2.2.1.mono (by have := HV2.out.2.1; omega))).trans (hB.mono (by have := HV2.out.2.2.2.2.1; omega)))
        have hll : l.length = n := hFW.wins.1
        obtain ⟨⟨f1, f2⟩, hkf⟩ : ∃ f, l[pre.length]? = some f := ⟨_, List.getElem?_eq_getElem hpl⟩
        obtain ⟨b1, o1, hbo, hbl, cw0, cw1, y1, y2⟩ := hFW.wins.2 _ _ hkf
        cases hbo
        dsimp only at cw0 cw1 y1 y2
        have hsl := sumS_le pre
        have d0 : W.cell? ⟨KX, 0, none⟩ = some (.int .i64 pre.length) := hbk.read 0
        have d1 : W.cell? ⟨w.heap.size, 0, none⟩ = some (.slice (some ⟨b0, o0, none⟩) n cap) := hFW.r3.read 0
        have d2 : W.cell? ⟨AX, 0, none⟩ = some (.int .u64 (sumS pre : Nat)) := hba.read 0
        have d3 : W.cell? ⟨q, 0, none⟩ = some (.int .u8 x.g) := hbq.read 0
        have d4 : W.cell? ⟨q, 1, none⟩ = some (.int .u16 x.s) := hbq.read 1
        have HW := Lib.hid (And.intro hFW (And.intro hbk (And.intro hba (And.intro hbq hB))))
        have hn32 : l.length ≤ 32 := hFW.tb.n32
        clear hFW hbk hba hbq hB hf0 hxk hxa hxn hb2
        obtain ⟨xa, xg, xs, hxa, hxg, hxs⟩ := x
        dsimp only at d3 d4 HW ⊢
        have HL := Lib.hid hkf
        have d5 : W.cell? ⟨b0, o0 + pre.length * 2, none⟩ = some (.int .u8 f1) := cw0
        have d6 : W.cell? ⟨b0, o0 + pre.length * 2 + 1, none⟩ = some (.int .u16 f2) := cw1
        have hkn : pre.length < n := by omega
        have hk32 : pre.length < 32 := by omega
        have HKK0 : ∃ kk sm, kk = pre.length ∧ sm = sumS pre := ⟨_, _, rfl, rfl⟩
        obtain ⟨kk, sm, hkk, hsm⟩ := HKK0
        rw [← hkk] at d0 d5 d6 hkn hk32 HW hsl
        rw [← hsm] at d2 HW hsl
        have HKK := Lib.hid (And.intro hkk.symm hsm.symm)
        have z1 : (0 : Int) ≤ (kk : Int) := Int.natCast_nonneg _
        have z2 : (kk : Int) < (n : Int) := by omega
        have z3 : ¬ (n ≤ kk) := by omega
        have z4 : decide (n ≤ kk) = false := decide_eq_false z3
        have z5 : (sm : Int) ≤ 32768 := by omega
        have z6 : (0 : Int) ≤ (sm : Int) := Int.natCast_nonneg _
        have z7 : (xs : Int) ≤ 1024 := by omega
        have z8 : (0 : Int) ≤ (xs : Int) := Int.natCast_nonneg _
        have ne1 : ¬ (KX = AX) := by omega
        have ne2 : ¬ (AX = KX) := by omega
        have ne3 : ¬ (q = KX) := by omega
        have ne4 : ¬ (q = AX) := by omega
        have zx : IntKind.u64.wrap (xs : Int) = (xs : Int) := by show (xs : Int) % 18446744073709551616 = _; omega
        have z9 : wrap64 ((kk : Int) + 1) = (kk : Int) + 1 := by unfold wrap64; omega
        have zz : IntKind.u64.wrap ((sm : Int) + (xs : Int)) = (sm : Int) + (xs : Int) := by show ((sm : Int) + (xs : Int)) % 18446744073709551616 = _; omega
        clear cw0 cw1 hkf hsl hpl hkk hsm
        subst hT
        simp only [List.setIfInBounds_toArray, List.set_cons_zero, List.set_cons_succ]
        by_cases ha : xa = sm
        · by_cases hg : xg = f1
          · by_cases hs : xs = f2
            · subst ha hg hs
              have nn1 : ((xa : Int) != (xa : Int)) = false := by simp
              gi_wp2
              refine wpIn_region_ends (fun w' => w'.cell? ⟨KX, 0, none⟩ = some (.int .i64 kk) ∧ w'.cell? ⟨w.heap.size, 0, none⟩ = some (.slice (some ⟨b0, o0, none⟩) n cap) ∧ w'.cell? ⟨AX, 0, none⟩ = some (.int .u64 xa) ∧ w'.cell? ⟨q, 0, none⟩ = some (.int .u8 xg) ∧ w'.cell? ⟨q, 1, none⟩ = some (.int .u16 xs) ∧ w'.cell? ⟨b0, o0 + kk * 2, none⟩ = some (.int .u8 xg) ∧ w'.cell? ⟨b0, o0 + kk * 2 + 1, none⟩ = some (.int .u16 xs))
                (.e 0 :: .e 0 :: .e 0 :: .e 0 :: .e 0 :: .e 0 :: .e 0 :: .e 0 :: .e 0 :: .e 0 :: .e 0 :: .e 0 :: .e 0 :: .e 0 :: .e 0 :: .e 0 :: .e 0 :: []) (by kernel_rfl) (by kernel_rfl) (by kernel_rfl) (by kernel_rfl) (by kernel_rfl) ?_
              have hHeld : W.drew.cell? ⟨KX, 0, none⟩ = some (.int .i64 kk) ∧ W.drew.cell? ⟨w.heap.size, 0, none⟩ = some (.slice (some ⟨b0, o0, none⟩) n cap) ∧ W.drew.cell? ⟨AX, 0, none⟩ = some (.int .u64 xa) ∧ W.drew.cell? ⟨q, 0, none⟩ = some (.int .u8 xg) ∧ W.drew.cell? ⟨q, 1, none⟩ = some (.int .u16 xs) ∧ W.drew.cell? ⟨b0, o0 + kk * 2, none⟩ = some (.int .u8 xg) ∧ W.drew.cell? ⟨b0, o0 + kk * 2 + 1, none⟩ = some (.int .u16 xs) := ⟨d0, d1, d2, d3, d4, d5, d6⟩
              repeat (first
                | (refine mv_take0 (v := ?_) (by rfl) hHeld ?_ ?_; rotate_left 1; (focus (intro w hSw; (try dsimp only at hSw); obtain ⟨g0, g1, g2, g3, g4, g5, g6⟩ := hSw; go_simp; (try with_reducible rfl); done)); (try simp only [Act.put, List.setIfInBounds_toArray, List.set_cons_zero, List.set_cons_succ]))
                | (refine mv_skip0 (by rfl) hHeld ?_; (try simp only [Act.put, List.setIfInBounds_toArray, List.set_cons_zero, List.set_cons_succ])))
              refine mv_ends ?_
              clear hHeld
              have e0 := HW.out.2.1.read 0
              have f0 := HW.out.2.1.warm 0
              have e2 := HW.out.2.2.1.read 0
              have f2 := HW.out.2.2.1.warm 0
              have e4 := HW.out.2.2.2.1.read 1
              clear HG HV2 HS HL tl0 tl1 tw r0 d0 d1 d2 d3 d4 d5 d6
              gi_wp2
              refine ⟨(((KeepsOthers.drew W).trans (KeepsOthers.setCell _ _ _)).trans (KeepsOthers.setCell _ _ _)).from _, fun j hj hjX cs t fz h => ?_, box_eq ((HW.out.2.1.drawn1.putFar (p := ⟨AX, 0, none⟩) (by show KX ≠ AX; omega) _).put 0 _) ?_, box_eq ((HW.out.2.2.1.drawn1.put 0 _).putFar (p := ⟨KX, 0, none⟩) (by show AX ≠ KX; omega) _) ?_, ((HW.out.2.2.2.2.drew).setCell (p := ⟨AX, 0, none⟩) (by show KX ≤ AX; omega) _).setCell (p := ⟨KX, 0, none⟩) (Nat.le_refl _) _⟩
              · exact (Below.heap_setCell _ ⟨KX, 0, none⟩ _ j (by show j ≠ KX; omega)).trans ((Below.heap_setCell _ ⟨AX, 0, none⟩ _ j (by show j ≠ AX; omega)).trans h)
              · rw [List.length_append, List.length_singleton, HKK.out.1]; exact cells_eq (by omega)
              · rw [sumS_snoc, HKK.out.2]; exact cells_eq (by simp only; omega)
            · have nn1 : ((xa : Int) != (sm : Int)) = false := by simp [ha]
              have nn2 : ((xg : Int) == (f1 : Int)) = true := by simp [hg]
              have nn3 : ¬ ((xs : Int) = (f2 : Int)) := by omega
              have HV : Hid (¬ ((⟨xa, xg, xs, hxa, hxg, hxs⟩ : It).a = sumS pre ∧ ∃ f, l[pre.length]? = some f ∧ (⟨xa, xg, xs, hxa, hxg, hxs⟩ : It).g = f.1 ∧ (⟨xa, xg, xs, hxa, hxg, hxs⟩ : It).s = f.2)) := Lib.hid (fun ⟨_, f, h1, h2, h3⟩ => by
                rw [HL.out] at h1
                cases h1
                exact hs h3)
              gi_wp2
              refine wpIn_region_ends (fun w' => w'.cell? ⟨KX, 0, none⟩ = some (.int .i64 kk) ∧ w'.cell? ⟨w.heap.size, 0, none⟩ = some (.slice (some ⟨b0, o0, none⟩) n cap) ∧ w'.cell? ⟨AX, 0, none⟩ = some (.int .u64 sm) ∧ w'.cell? ⟨q, 0, none⟩ = some (.int .u8 xg) ∧ w'.cell? ⟨q, 1, none⟩ = some (.int .u16 xs) ∧ w'.cell? ⟨b0, o0 + kk * 2, none⟩ = some (.int .u8 f1) ∧ w'.cell? ⟨b0, o0 + kk * 2 + 1, none⟩ = some (.int .u16 f2))
                (.e 0 :: .e 0 :: .e 0 :: .e 0 :: .e 0 :: .e 0 :: .e 0 :: .e 0 :: .e 0 :: .e 0 :: .e 0 :: .e 0 :: .e 0 :: .e 0 :: .e 0 :: .e 0 :: .e 0 :: []) (by kernel_rfl) (by kernel_rfl) (by kernel_rfl) (by kernel_rfl) (by kernel_rfl) ?_
              have hHeld : W.drew.cell? ⟨KX, 0, none⟩ = some (.int .i64 kk) ∧ W.drew.cell? ⟨w.heap.size, 0, none⟩ = some (.slice (some ⟨b0, o0, none⟩) n cap) ∧ W.drew.cell? ⟨AX, 0, none⟩ = some (.int .u64 sm) ∧ W.drew.cell? ⟨q, 0, none⟩ = some (.int .u8 xg) ∧ W.drew.cell? ⟨q, 1, none⟩ = some (.int .u16 xs) ∧ W.drew.cell? ⟨b0, o0 + kk * 2, none⟩ = some (.int .u8 f1) ∧ W.drew.cell? ⟨b0, o0 + kk * 2 + 1, none⟩ = some (.int .u16 f2) := ⟨d0, d1, d2, d3, d4, d5, d6⟩
              repeat (first
                | (refine mv_take0 (v := ?_) (by rfl) hHeld ?_ ?_; rotate_left 1; (focus (intro w hSw; (try dsimp only at hSw); obtain ⟨g0, g1, g2, g3, g4, g5, g6⟩ := hSw; go_simp; (try with_reducible rfl); done)); (try simp only [Act.put, List.setIfInBounds_toArray, List.set_cons_zero, List.set_cons_succ]))
                | (refine mv_skip0 (by rfl) hHeld ?_; (try simp only [Act.put, List.setIfInBounds_toArray, List.set_cons_zero, List.set_cons_succ])))
              refine mv_ends ?_
              clear hHeld
              have c6 := HW.out.1.r6.read 0
              have f6 := HW.out.1.r6.warm 0
              clear HG HV2 HS tl0 tl1 tw r0 d0 d1 d2 d3 d4 d5 d6
              gi_wp2
              exact ⟨((KeepsOthers.drew W).trans (KeepsOthers.setCell _ _ _)).from _, pre, _, rfl, HV.out⟩
          · have nn1 : ((xa : Int) != (sm : Int)) = false := by simp [ha]
            have nn3 : ¬ ((xg : Int) = (f1 : Int)) := by omega
            have HV : Hid (¬ ((⟨xa, xg, xs, hxa, hxg, hxs⟩ : It).a = sumS pre ∧ ∃ f, l[pre.length]? = some f ∧ (⟨xa, xg, xs, hxa, hxg, hxs⟩ : It).g = f.1 ∧ (⟨xa, xg, xs, hxa, hxg, hxs⟩ : It).s = f.2)) := Lib.hid (fun ⟨_, f, h1, h2, h3⟩ => by
              rw [HL.out] at h1
              cases h1
              exact hg h2)
            gi_wp2
            refine wpIn_region_ends (fun w' => w'.cell? ⟨KX, 0, none⟩ = some (.int .i64 kk) ∧ w'.cell? ⟨w.heap.size, 0, none⟩ = some (.slice (some ⟨b0, o0, none⟩) n cap) ∧ w'.cell? ⟨AX, 0, none⟩ = some (.int .u64 sm) ∧ w'.cell? ⟨q, 0, none⟩ = some (.int .u8 xg) ∧ w'.cell? ⟨q, 1, none⟩ = some (.int .u16 xs) ∧ w'.cell? ⟨b0, o0 + kk * 2, none⟩ = some (.int .u8 f1) ∧ w'.cell? ⟨b0, o0 + kk * 2 + 1, none⟩ = some (.int .u16 f2))
              (.e 0 :: .e 0 :: .e 0 :: .e 0 :: .e 0 :: .e 0 :: .e 0 :: .e 0 :: .e 0 :: .e 0 :: .e 0 :: .e 0 :: .e 0 :: .e 0 :: .e 0 :: .e 0 :: .e 0 :: []) (by kernel_rfl) (by kernel_rfl) (by kernel_rfl) (by kernel_rfl) (by kernel_rfl) ?_
            have hHeld : W.drew.cell? ⟨KX, 0, none⟩ = some (.int .i64 kk) ∧ W.drew.cell? ⟨w.heap.size, 0, none⟩ = some (.slice (some ⟨b0, o0, none⟩) n cap) ∧ W.drew.cell? ⟨AX, 0, none⟩ = some (.int .u64 sm) ∧ W.drew.cell? ⟨q, 0, none⟩ = some (.int .u8 xg) ∧ W.drew.cell? ⟨q, 1, none⟩ = some (.int .u16 xs) ∧ W.drew.cell? ⟨b0, o0 + kk * 2, none⟩ = some (.int .u8 f1) ∧ W.drew.cell? ⟨b0, o0 + kk * 2 + 1, none⟩ = some (.int .u16 f2) := ⟨d0, d1, d2, d3, d4, d5, d6⟩
            repeat (first
              | (refine mv_take0 (v := ?_) (by rfl) hHeld ?_ ?_; rotate_left 1; (focus (intro w hSw; (try dsimp only at hSw); obtain ⟨g0, g1, g2, g3, g4, g5, g6⟩ := hSw; go_simp; (try with_reducible rfl); done)); (try simp only [Act.put, List.setIfInBounds_toArray, List.set_cons_zero, List.set_cons_succ]))
              | (refine mv_skip0 (by rfl) hHeld ?_; (try simp only [Act.put, List.setIfInBounds_toArray, List.set_cons_zero, List.set_cons_succ])))
            refine mv_ends ?_
            clear hHeld
            have c6 := HW.out.1.r6.read 0
            have f6 := HW.out.1.r6.warm 0
            clear HG HV2 HS tl0 tl1 tw r0 d0 d1 d2 d3 d4 d5 d6
            gi_wp2
            exact ⟨((KeepsOthers.drew W).trans (KeepsOthers.setCell _ _ _)).from _, pre, _, rfl, HV.out⟩
        · have nn1 : ((xa : Int) != (sm : Int)) = true := bne_iff_ne.2 (by omega)
          have HV : Hid (¬ ((⟨xa, xg, xs, hxa, hxg, hxs⟩ : It).a = sumS pre ∧ ∃ f, l[pre.length]? = some f ∧ (⟨xa, xg, xs, hxa, hxg, hxs⟩ : It).g = f.1 ∧ (⟨xa, xg, xs, hxa, hxg, hxs⟩ : It).s = f.2)) := Lib.hid (fun ⟨h1, _⟩ => ha (h1.trans HKK.out.2))
          gi_wp2
          refine wpIn_region_ends (fun w' => w'.cell? ⟨KX, 0, none⟩ = some (.int .i64 kk) ∧ w'.cell? ⟨w.heap.size, 0, none⟩ = some (.slice (some ⟨b0, o0, none⟩) n cap) ∧ w'.cell? ⟨AX, 0, none⟩ = some (.int .u64 sm) ∧ w'.cell? ⟨q, 0, none⟩ = some (.int .u8 xg) ∧ w'.cell? ⟨q, 1, none⟩ = some (.int .u16 xs) ∧ w'.cell? ⟨b0, o0 + kk * 2, none⟩ = some (.int .u8 f1) ∧ w'.cell? ⟨b0, o0 + kk * 2 + 1, none⟩ = some (.int .u16 f2))
            (.e 0 :: .e 0 :: .e 0 :: .e 0 :: .e 0 :: .e 0 :: .e 0 :: .e 0 :: .e 0 :: .e 0 :: .e 0 :: .e 0 :: .e 0 :: .e 0 :: .e 0 :: .e 0 :: .e 0 :: []) (by kernel_rfl) (by kernel_rfl) (by kernel_rfl) (by kernel_rfl) (by kernel_rfl) ?_
          have hHeld : W.drew.cell? ⟨KX, 0, none⟩ = some (.int .i64 kk) ∧ W.drew.cell? ⟨w.heap.size, 0, none⟩ = some (.slice (some ⟨b0, o0, none⟩) n cap) ∧ W.drew.cell? ⟨AX, 0, none⟩ = some (.int .u64 sm) ∧ W.drew.cell? ⟨q, 0, none⟩ = some (.int .u8 xg) ∧ W.drew.cell? ⟨q, 1, none⟩ = some (.int .u16 xs) ∧ W.drew.cell? ⟨b0, o0 + kk * 2, none⟩ = some (.int .u8 f1) ∧ W.drew.cell? ⟨b0, o0 + kk * 2 + 1, none⟩ = some (.int .u16 f2) := ⟨d0, d1, d2, d3, d4, d5, d6⟩
          repeat (first
            | (refine mv_take0 (v := ?_) (by rfl) hHeld ?_ ?_; rotate_left 1; (focus (intro w hSw; (try dsimp only at hSw); obtain ⟨g0, g1, g2, g3, g4, g5, g6⟩ := hSw; go_simp; (try with_reducible rfl); done)); (try simp only [Act.put, List.setIfInBounds_toArray, List.set_cons_zero, List.set_cons_succ]))
            | (refine mv_skip0 (by rfl) hHeld ?_; (try simp only [Act.put, List.setIfInBounds_toArray, List.set_cons_zero, List.set_cons_succ])))
          refine mv_ends ?_
          clear hHeld
          have c6 := HW.out.1.r6.read 0
          have f6 := HW.out.1.r6.warm 0
          clear HG HV2 HS tl0 tl1 tw r0 d0 d1 d2 d3 d4 d5 d6
          gi_wp2
          exact ⟨((KeepsOthers.drew W).trans (KeepsOthers.setCell _ _ _)).from _, pre, _, rfl, HV.out⟩
      case done =>
        rintro D ys W hD rfl ⟨hbk, hba, hB⟩ hK
        have hFW : Ft w W b0 o0 n cap p wb wc bb bo bc fb fo fc l a1 n1 A := HS.out.over ((HV2.out.1.trans (HV2.out.2.2.1.mono (by have := HV2.out.2.1; omega))).trans (hB.mono (by have := HV2.out.2.2.2.2.1; omega)))
        have hll : l.length = n := hFW.wins.1
        rw [items_len, hll] at hbk
        have d0 := hbk.read 0
        have d1 := hFW.r3.read 0
        have HW := Lib.hid (And.intro hFW hK)
        have hDl := (Array.getElem?_eq_some_iff.1 hK).1
        clear hFW hbk hba hB hf0 hxk hxa hxn hb2 hK HG HV2 tl0 tl1 tw r0
        subst hT
        go_wp2_with (go_at_call 6; refine (awake_any W).mono ?_; rintro e W2 ⟨rfl, hb⟩; have H2 := Lib.hid (And.intro (HW.out.1.over hb) ((hb.block D hDl).trans HW.out.2)); clear hb; have c6 := H2.out.1.r6.read 0; have f6 := H2.out.1.r6.warm 0)
        have hDX : D ≠ w.heap.size + 1 := by omega
        have hs0 := H2.out.1.bel.size
        have bl1 : Below w.heap.size w (W2.setCell ⟨w.heap.size + 1, 0, none⟩ (.bool true)) := H2.out.1.bel.setCell (p := ⟨w.heap.size + 1, 0, none⟩) (by show w.heap.size ≤ w.heap.size + 1; omega) _
        have hx1 : Box (W2.setCell ⟨w.heap.size + 1, 0, none⟩ (.bool true)) (w.heap.size + 1) 4 #[.bool true] := H2.out.1.r6.put 0 _
        have hK2 : (W2.setCell ⟨w.heap.size + 1, 0, none⟩ (.bool true)).heap[D]? = some (.deferred (some [])) := (Below.heap_setCell W2 ⟨w.heap.size + 1, 0, none⟩ _ D hDX).trans H2.out.2
        generalize (W2.setCell ⟨w.heap.size + 1, 0, none⟩ (.bool true)) = W3 at bl1 hx1 hK2 ⊢
        refine ⟨by simp, .inl ⟨_, _, rfl, run_takeDeferred hK2, ?_⟩⟩
        have hx2 : Box (W3.putObj D (.deferred none)) (w.heap.size + 1) 4 #[.bool true] := (World.putObj_heap_other (fun e => hDX e.symm)).trans hx1
        exact ⟨_, results_cell1 rfl _ _ _ (w.heap.size + 1) (.bool true) rfl (hx2.read 0) (run_isAgg_plain Tryd.underlying4 rfl _), rfl, bl1.trans (belowK_b (w := w) (Nat.le_refl _) W3 D _ _ (by omega) hK2 rfl rfl)⟩
      case stop =>
        rintro D c pre W hD hpre ⟨pre', x, rfl, hne⟩ hK
        exact absurd (items_meet HG.out.1.top HG.out.2.1 hpre) hne
theorem tells_any (G : Int) (a a1 : Option Addr) (n cap n1 cap1 : Nat) (l : List Win) (A : List (Nat × Nat)) (w : World) (hG1 : -9223372036854775808 ≤ G) (hG2 : G ≤ 9223372036854775807) (hf : IsWins w a n l) (hA : IsAsks w a1 n1 A) (hN : Nums w) (hJ : JoinIs) : Calls Tryd.prog 3 #[.slice a n cap, .int .i64 G, .slice a1 n1 cap1] w (Yes w) := by
  by_cases hc : 60 < n ∨ 40 < n1 ∨ chk G l ≠ 0
  · exact tells_bad G a a1 n cap n1 cap1 l w hG1 hG2 hf hc
  · have h0 : chk G l = 0 := by omega
    obtain ⟨f, hk⟩ : ∃ f, l[0]? = some f := ⟨_, List.getElem?_eq_getElem (chk_good h0).n1⟩
    obtain ⟨_, b, off, rfl, _⟩ := win_at hf hk
    exact tells_good G b off a1 n cap n1 cap1 l A w hG1 hG2 (by omega) (by omega) hf hA h0 hN hJ
end Go.Proofs.YtnfnhhphoiebbaaDoor
