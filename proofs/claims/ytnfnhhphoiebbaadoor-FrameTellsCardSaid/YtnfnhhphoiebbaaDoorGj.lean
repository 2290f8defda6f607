/- The program's Text. -/
import Derived.Test.YtnfnhhphoiebbaaDoorGi
set_option linter.unusedVariables false
set_option linter.unusedSimpArgs false
namespace Go.Proofs.YtnfnhhphoiebbaaDoor
open Go.RowKit Go.Shelf
attribute [local go_sem] Oper.semAt_some
theorem info9 : (Tryd.prog.info? 9).map (fun i => (i.zero, i.size, i.bytes)) = some (some (.string ByteArray.empty), 1, 16) := by kernel_rfl
def sv (L : List (List UInt8)) : List Value := L.map fun x => .string (st x)
theorem sv_len (L : List (List UInt8)) : (sv L).length = L.length := by simp [sv]
def itI (x : It) : List UInt8 := itL (x.g, x.s)
theorem itI_items : ∀ (l : List Win) (s : Nat), (∀ w ∈ l, w.1 < 256) → s + tot l ≤ 1024 → (items s l).map itI = l.map itL
  | [], _, _, _ => rfl
  | w :: r, s, hb, ht => by
    have h1 := hb w List.mem_cons_self
    simp only [tot] at ht
    simp only [items, List.map_cons]
    rw [itI_items r _ (fun v hv => hb v (List.mem_cons_of_mem _ hv)) (by omega)]
    congr 1
    unfold itI toIt
    simp only
    rw [Nat.mod_eq_of_lt h1, Nat.min_eq_left (by omega : w.2 ≤ 1024)]
/-- A list of texts under way. -/
structure Sw (B : Nat) (W : World) (v : Value) (L : List (List UInt8)) : Prop where
  lane : Lane W 9 v (sv L)
  far : ∀ b, v.ownBlock = some b → B ≤ b
theorem Sw.below {B : Nat} {W W' : World} {v : Value} {L : List (List UInt8)} (h : Sw B W v L) (k : Below W.heap.size W W') : Sw B W' v L := ⟨h.lane.below k (Nat.le_refl _), h.far⟩
/-- How things stand between two rounds. -/
def Tx (X B : Nat) (w4 : World) (pre : List It) (W : World) : Prop := ∃ v, Box W X 60 #[v] ∧ Sw B W v (pre.map itI) ∧ Below X w4 W
theorem tx_own (X B C : Nat) (w4 : World) (hC : X ≤ C) (hw : X ≤ w4.heap.size) : OwnFrom C (Tx X B w4) := fun pre W W' row ⟨v, hbx, hsw, hB⟩ hg hr => by
  have hrow : ∀ b, row = some b → ∀ cs t fz, W.heap[b]? ≠ some (.cells cs t fz) := fun b e cs t fz h => by
    obtain ⟨_, o, ho, hc⟩ := hr b e
    rw [h] at ho
    cases ho
    cases hc
  refine ⟨v, (hg.block X hbx.inHeap (fun e => hrow X e.symm _ _ _ hbx)).trans hbx, ⟨hsw.lane.kept hg ?_, hsw.far⟩, hB.grown hg (Nat.le_trans hw hB.size) fun k e => Nat.le_trans hC (hr k e).1⟩
  cases hv : v.ownBlock with
  | none => exact .inl rfl
  | some b =>
    refine .inr fun e => ?_
    rcases hsw.lane with ⟨rfl, _⟩ | ⟨g, off, cap, cur, rfl, hb, _⟩
    · cases hv
    · cases hv
      exact hrow g e.symm _ _ _ hb
set_option maxRecDepth 100000 in
set_option maxHeartbeats 4000000 in
theorem text_any {w : World} {p wb wc bb bo bc : Nat} {l : List Win} (hN : Nums w) (hJ : JoinIs) (hq : Tb w p wb wc bb bo bc l) (hl0 : l ≠ []) : Calls Tryd.prog 10 #[.pointer (some ⟨p, 0, none⟩)] w fun e w' => e = .returned (.string (st (txL l))) ∧ Below w.heap.size w w' := by
  refine (callsIn_wide (n := 9)).1 ?_
  have HQ := Lib.hid hq
  have HN := Lib.hid hN
  have HJ := Lib.hid hJ
  clear hq hN hJ
  obtain ⟨i0, hi, iz0, iz1, iz2⟩ := info_parts info9
  refine callsIn_of_wp_marks Tryd.func10 rfl trivial ?_ rfl
  simp only [Tryd.ntmps10, List.size_toArray, List.length_cons, List.length_nil, Nat.reduceAdd, Nat.reduceSub, Array.replicate_succ, Array.replicate_zero, List.push_toArray, List.append_toArray, List.nil_append, List.cons_append]
  gi_wp2_with (refine ⟨trivial, ?_⟩; gi_at_call 19; refine (callsIn_wide.2 (windows_any p _)).mono ?_; rintro e w' ⟨rfl, rfl⟩)
  obtain ⟨X, hX⟩ : ∃ X, X = w.heap.size := ⟨_, rfl⟩
  obtain ⟨w4, hw4⟩ : ∃ w4, w4 = ((w.alloc (.cells #[.slice none 0 0] 60)).alloc (.cells #[.pointer (some ⟨p, 0, none⟩)] 26)) := ⟨_, rfl⟩
  have bl : Below w.heap.size w w4 := by rw [hw4]; exact ((Below.refl _ w).alloc (Nat.le_refl _) _).alloc (by simp) _
  have hs4 : w4.heap.size = X + 2 := by rw [hw4, hX]; simp
  have hxx : Box w4 X 60 #[.slice none 0 0] := by
    rw [hw4, hX]; exact (Box.made w 60 _).more _
  have hxn : Box w4 (X + 1) 26 #[.pointer (some ⟨p, 0, none⟩)] := by
    have := Box.made (w.alloc (.cells #[.slice none 0 0] 60)) 26 #[.pointer (some ⟨p, 0, none⟩)]
    rw [World.size_alloc] at this
    rw [hw4, hX]; exact this
  have hq4 : Tb w4 p wb wc bb bo bc l := HQ.out.over bl (Nat.le_refl _)
  have hpX : p < w.heap.size := HQ.out.box.inHeap
  have hwX : wb < w.heap.size := by obtain ⟨_, b, _⟩ := HQ.out.wbx; exact b.inHeap
  have hbX : bb < w.heap.size := by obtain ⟨_, b, _⟩ := HQ.out.bbx; exact b.inHeap
  have hn32 := HQ.out.n32
  rw [← hw4, ← hX]
  have HBL := Lib.hid (And.intro bl (And.intro hX hs4))
  clear hw4 bl
  refine wpIn_rangeFunc_ownH rfl (by omega) (gf := 30) (lb := #[.pointer (some ⟨X + 1, 0, none⟩)]) rfl trivial (enters_of Tryd.func30 (by kernel_rfl) rfl)
    (iter_winL (n := 8) (by omega) X (X + 1) (by omega) (by omega) (by omega) (by omega) (by omega) (by omega) hq4 hxn) KL.t (KL.b (m := w4.heap.size)) (Below.refl _ _) (fun _ => rfl)
    (Tx X w4.heap.size w4)
    (fun _ _ _ => False)
    (tx_own X w4.heap.size w4.heap.size w4 (by omega) (by omega))
    (fun _ _ _ _ _ hs _ _ => hs)
    ⟨_, hxx, ⟨.inl ⟨rfl, rfl⟩, fun b h => by cases h⟩, Below.refl _ _⟩
    (fun x a' W => ∃ q, a' = { tmps := #[.pointer (some ⟨p, 0, none⟩), undef, .string ⟨#[]⟩, .pointer (some ⟨X, 0, none⟩), undef, .pointer (some ⟨q, 0, none⟩), undef, .pointer (some ⟨p, 0, none⟩), .func (.func 30) #[] #[.pointer (some ⟨X + 1, 0, none⟩)], .int .u64 x.a, .agg #[.int .u8 x.g, .int .u16 x.s], undef, undef, undef, undef, undef, undef, undef, undef, undef, undef, undef, undef, undef, undef, undef, undef, undef, undef, undef], defers := [] } ∧ X < q ∧ Box W q 51 #[.int .u8 x.g, .int .u16 x.s])
    (fun x a' s W W' row ⟨q, e, hq, hb⟩ hg hr => ⟨q, e, hq, box_ownF w4.heap.size q 51 (fun _ : Unit => #[.int .u8 x.g, .int .u16 x.s]) s W W' row hb hg hr⟩)
    ?assign ?body ?done ?stop
  case assign =>
    rintro lv pre x W K ⟨v, hbx, hsw, hB⟩ hK
    have HK := Lib.hid hK
    have HX := Lib.hid (And.intro hbx (And.intro hsw hB))
    clear hK hbx hsw hB
    gi_wp2
    refine HK.out _ _ ((KeepsOthers.alloc _ _).from _) (KL.below ((Below.refl _ W).alloc (Nat.le_refl _) _)) ⟨v, HX.out.1.more _, HX.out.2.1.below ((Below.refl _ W).alloc (Nat.le_refl _) _), HX.out.2.2.alloc (Nat.le_of_lt HX.out.1.inHeap) _⟩ ⟨W.heap.size, by rw [hX], HX.out.1.inHeap, Box.made W 51 _⟩
  case body =>
    rintro lv pre x a' W _ _ ⟨v, hbx, hsw, hB⟩ ⟨q, rfl, hqX, hbq⟩ hpl2
    subst hX
    have hXs := hbx.inHeap
    have d0 : W.cell? ⟨q, 0, none⟩ = some (.int .u8 x.g) := hbq.read 0
    have hWw : Below w.heap.size w W := by
      have h1 := HBL.out.1
      have h2 := hB
      exact h1.trans h2
    have hin : (items 0 l).length = l.length := items_len 0 l
    have hplen : pre.length ≤ 32 := by omega
    have HS := Lib.hid (And.intro hbx (And.intro hsw (And.intro hB (And.intro hbq (And.intro hWw hplen)))))
    clear hbx hsw hB hbq hpl2 hxn hq4 hWw
    obtain ⟨xa, xg, xs, hxa, hxg, hxs⟩ := x
    dsimp only at d0 HS ⊢
    have HI : Hid (itI ⟨xa, xg, xs, hxa, hxg, hxs⟩ = gL xg ++ ([58] ++ Lib.decDigits xs)) := Lib.hid rfl
    have hg1 : (gL xg).length ≤ 20 := gL_len hxg
    have hd2 : (Lib.decDigits xs).length ≤ 20 := digs_len (by omega)
    obtain ⟨tb, htb⟩ : ∃ tb, tb = gL xg ++ [58] := ⟨_, rfl⟩
    obtain ⟨tc, htc⟩ : ∃ tc, tc = tb ++ Lib.decDigits xs := ⟨_, rfl⟩
    have x1 : ¬ 9223372036854775807 < (st (gL xg)).size + 1 := by rw [st_size]; omega
    have x2 : ¬ 9223372036854775807 < (st tb).size + (st (Lib.decDigits xs)).size := by rw [st_size, st_size, htb, List.length_append]; simp only [List.length_cons, List.length_nil]; omega
    have x3 : st (gL xg) ++ (⟨#[58]⟩ : ByteArray) = st tb := by rw [htb]; exact st_app _ [58]
    have x4 : st tb ++ st (Lib.decDigits xs) = st tc := by rw [htc]; exact st_app _ _
    have HE : Hid (itI ⟨xa, xg, xs, hxa, hxg, hxs⟩ = tc) := Lib.hid (by rw [HI.out, htc, htb]; simp)
    have D1 := Lib.hid (fun wx (hb : Below w.heap.size w wx) => HN.out xg wx (by omega) hb)
    have D2 := Lib.hid (fun wx (hb : Below w.heap.size w wx) => HN.out xs wx (by omega) hb)
    have h45 : xg = 255 → (⟨#[45]⟩ : ByteArray) = st (gL xg) := fun e => by rw [show gL xg = [45] from if_pos e]; rfl
    have hnn : xg ≠ 255 → Lib.decDigits xg = gL xg := fun e => (show gL xg = Lib.decDigits xg from if_neg e).symm
    have H45 := Lib.hid (And.intro h45 hnn)
    have k1 : (0 : Int) ≤ (xg : Int) := Int.natCast_nonneg _
    have k2 : (0 : Int) ≤ (xs : Int) := Int.natCast_nonneg _
    have x9 : IntKind.i64.wrap (xs : Int) = (xs : Int) := IntWalk.i64_in _ (by omega)
    clear h45 hnn htb htc hg1 hd2
    have hdd : ∃ dg, dg = Lib.decDigits xg := ⟨_, rfl⟩
    obtain ⟨dg1, hdg1⟩ := hdd
    have HD1 := Lib.hid hdg1
    rw [← hdg1] at D1
    clear hdg1
    generalize Lib.decDigits xs = d2 at x2 x4 D2
    generalize hgl : gL xg = gl at x1 x3
    have HG := Lib.hid hgl
    clear hgl
    by_cases h255 : xg = 255
    · have e1 : ((xg : Int) == 255) = true := by simp [h255]
      have y1 : ¬ 9223372036854775807 < (⟨#[45]⟩ : ByteArray).size + 1 := by decide
      have y3 : (⟨#[45]⟩ : ByteArray) ++ (⟨#[58]⟩ : ByteArray) = st tb := by rw [H45.out.1 h255, HG.out]; exact x3
      clear x1 x3 h255
      gi_wp2_with (refine ⟨trivial, ?_⟩; gi_at_call 25; refine (CallsIn.inRound lv (callsIn_wide.2 (D1.out _ HS.out.2.2.2.2.1))).mono ?_; rintro e W1 ⟨rfl, hb⟩; have H1 := Lib.hid hb; clear hb; have e0 : W1.cell? ⟨q, 0, none⟩ = some (.int .u8 xg) := (H1.out.cell (p := ⟨q, 0, none⟩) HS.out.2.2.2.1.inHeap).trans d0)
      refine wpIn_region_then_ends 10 (fun w' => w'.cell? ⟨w.heap.size, 0, none⟩ = some v ∧ w'.cell? ⟨q, 1, none⟩ = some (.int .u16 xs))
        (.e 0 :: .e 0 :: .e 0 :: .e 0 :: .e 0 :: .e 0 :: .l 0 :: .e 0 :: .l 0 :: .l 0 :: []) (by kernel_rfl) (by kernel_rfl) (by kernel_rfl) (by kernel_rfl) (by kernel_rfl) (by kernel_rfl) (by kernel_rfl) ?_
      simp only [List.take_succ_cons, List.take_zero, List.drop_succ_cons, List.drop_zero]
      have T1 : Hid (Below W.heap.size W W1.drew) := Lib.hid (H1.out.drew)
      have H3 := Lib.hid (HS.out.1.over T1.out HS.out.1.inHeap)
      have H4 := Lib.hid (HS.out.2.2.2.1.over T1.out HS.out.2.2.2.1.inHeap)
      have hHeld := And.intro (H3.out.read 0) (H4.out.read 1)
      repeat (refine mv_take0 (v := ?_) (by rfl) hHeld ?_ ?_; rotate_left 1; (focus (intro w hSw; (try dsimp only at hSw); obtain ⟨hs0, hs1⟩ := hSw; go_simp; (try with_reducible rfl); done)); (try simp only [Act.put, List.setIfInBounds_toArray, List.set_cons_zero, List.set_cons_succ]))
      refine mv_loud0 (by rfl) (fun K2 hK => ?_)
      go_simp
      go_at_call 25
      refine (D2.out _ (HS.out.2.2.2.2.1.trans (T1.out.mono HS.out.2.2.2.2.1.size))).mono ?_
      rintro e W3 ⟨rfl, hb⟩
      have T3 : Hid (Below W.heap.size W W3) := Lib.hid (T1.out.trans (hb.mono T1.out.size))
      clear hb hHeld
      have H5 := Lib.hid (HS.out.1.over T3.out HS.out.1.inHeap)
      have H6 := Lib.hid (HS.out.2.2.2.1.over T3.out HS.out.2.2.2.1.inHeap)
      have hHeld := And.intro (H5.out.read 0) (H6.out.read 1)
      refine hK.out _ _ hHeld ?_
      clear hK K2
      (try simp only [Act.put, List.setIfInBounds_toArray, List.set_cons_zero, List.set_cons_succ])
      repeat (refine mv_take0 (v := ?_) (by rfl) hHeld ?_ ?_; rotate_left 1; (focus (intro w hSw; (try dsimp only at hSw); obtain ⟨hs0, hs1⟩ := hSw; go_simp; (try with_reducible rfl); done)); (try simp only [Act.put, List.setIfInBounds_toArray, List.set_cons_zero, List.set_cons_succ]))
      refine mv_loud0 (by rfl) (fun K2 hK => ?_)
      go_simp
      refine hK.out _ _ ⟨(H5.out.more _).read 0, (H6.out.more _).read 1⟩ ?_
      clear hK K2
      (try simp only [Act.put, List.setIfInBounds_toArray, List.set_cons_zero, List.set_cons_succ])
      refine mv_loud0 (by rfl) (fun K2 hK => ?_)
      have hla := (HS.out.2.1.below T3.out).lane.more (.cells #[.string (st tc)] 9)
      have hli := Lane.lit W3 9 #[.string (st tc)] (by simp [maxLen])
      have hlen : (sv (pre.map itI)).length ≤ 32 := by rw [sv_len, List.length_map]; exact HS.out.2.2.2.2.2
      have hm := hK
      refine wp_append_lane _ _ 60 rfl 9 i0 (.string ByteArray.empty) 16 Tryd.underlying60 hi iz0 iz1 iz2 (by decide) v (.slice (some ⟨W3.heap.size, 0, none⟩) 1 1) (sv (pre.map itI)) [.string (st tc)] rfl rfl hla hli ?c1 ?c2 ?c3 ?_
      case c1 => intro u hu; simp at hu; subst hu; rfl
      case c2 => simp only [List.length_singleton, maxLen]; omega
      case c3 => simp only [List.length_singleton]; omega
      intro v2 W5 hl2 hg2 hb2
      have hfX : v.ownBlock ≠ some w.heap.size := fun e => by have := HS.out.2.1.far _ e; omega
      have hfq : v.ownBlock ≠ some q := HS.out.2.1.lane.far HS.out.2.2.2.1 (by decide)
      have hbx5 : Box W5 w.heap.size 60 #[v] := (hg2.block _ (H5.out.more _).inHeap (fun e => hfX e.symm)).trans (H5.out.more _)
      have hbq5 : Box W5 q 51 #[.int .u8 xg, .int .u16 xs] := (hg2.block _ (H6.out.more _).inHeap (fun e => hfq e.symm)).trans (H6.out.more _)
      refine hK.out _ _ ⟨hbx5.read 0, hbq5.read 1⟩ ?_
      clear hm hK K2
      (try simp only [Act.put, List.setIfInBounds_toArray, List.set_cons_zero, List.set_cons_succ])
      refine mv_thenE ?_
      have hsz4 := HBL.out.2.2
      have c0 := hbx5.read 0
      have f0 := hbx5.warm 0
      have hfar2 : ∀ b, v2.ownBlock = some b → w4.heap.size ≤ b := fun b hb => by
        rcases hb2 b hb with h1 | h1
        · exact HS.out.2.1.far b h1
        · have h2 : W3.heap.size + 1 ≤ b := by simpa using h1.1
          have h3 := T3.out.size
          have h4 := HS.out.2.2.1.size
          omega
      have hres : KeepsOthers W (W5.setCell ⟨w.heap.size, 0, none⟩ v2) ∧ KL w.heap.size w4.heap.size W (W5.setCell ⟨w.heap.size, 0, none⟩ v2) ∧ Tx w.heap.size w4.heap.size w4 (pre ++ [⟨xa, xg, xs, hxa, hxg, hxs⟩]) (W5.setCell ⟨w.heap.size, 0, none⟩ v2) := by
        refine ⟨((keeps_below T3.out).trans (KeepsOthers.alloc _ _)).trans ((KeepsOthers.of_grownBy hg2 fun j o hj ho => ?_).trans (KeepsOthers.setCell _ _ _)), fun k hk hkX cs t fz h => ?_, v2, box_eq (hbx5.put 0 _) rfl, ⟨?_, hfar2⟩, ?_⟩
        · rcases hla with ⟨h0, _⟩ | ⟨g, off, cap, cur, h0, hb, _⟩
          · rw [h0] at hj; cases hj
          · rw [h0] at hj
            cases hj
            have h9 : (W3.alloc (.cells #[.string (st tc)] 9)).heap[g]? = _ := hb
            rw [h9] at ho
            cases ho
            rfl
        · have hkl := (Array.getElem?_eq_some_iff.1 h).1
          have h1 := (T3.out.block k hkl).trans h
          have hkl3 := (Array.getElem?_eq_some_iff.1 h1).1
          have h2 := (Below.heap_alloc W3 (.cells #[.string (st tc)] 9) k hkl3).trans h1
          refine (Below.heap_setCell W5 ⟨w.heap.size, 0, none⟩ _ k hkX).trans ((hg2.block k (by simp; omega) fun e => ?_).trans h2)
          have := HS.out.2.1.far k e.symm
          omega
        · have h1 := hl2.putFar (p := ⟨w.heap.size, 0, none⟩) hbx5 (by decide) v2
          rw [List.map_append, List.map_singleton, HE.out]
          rw [show sv (pre.map itI ++ [tc]) = sv (pre.map itI) ++ [.string (st tc)] by simp [sv]]
          exact h1
        · have h1 := HS.out.2.2.1
          have h2 : Below w.heap.size w4 W3 := h1.trans (T3.out.mono (Nat.le_of_lt HS.out.1.inHeap))
          have h3 : Below w.heap.size w4 (W3.alloc (.cells #[.string (st tc)] 9)) := h2.alloc (by have := h2.size; omega) _
          exact ((h3.grown hg2 (by have := h3.size; omega) fun k e => by have := HS.out.2.1.far k e; omega)).setCell (p := ⟨w.heap.size, 0, none⟩) (Nat.le_refl _) _
      have HR := Lib.hid hres
      obtain ⟨a2, cap2, rfl, hne2⟩ := hl2.shape
      clear hres hfar2 hbx5 hbq5 hl2 hg2 hb2 hla hli hne2
      generalize (sv (pre.map itI) ++ [Value.string (st tc)]).length = ln at HR ⊢
      go_wp2_with fail
      exact ⟨HR.out.1.from _, HR.out.2.1, HR.out.2.2⟩
    · have e1 : ((xg : Int) == 255) = false := beq_eq_false_iff_ne.2 (by omega)
      obtain rfl : dg1 = gl := by rw [HD1.out, H45.out.2 h255, HG.out]
      clear h255
      gi_wp2_with (refine ⟨trivial, ?_⟩; gi_at_call 25; refine (CallsIn.inRound lv (callsIn_wide.2 (D1.out _ HS.out.2.2.2.2.1))).mono ?_; rintro e W1 ⟨rfl, hb⟩; have H1 := Lib.hid hb; clear hb; have e0 : W1.cell? ⟨q, 0, none⟩ = some (.int .u8 xg) := (H1.out.cell (p := ⟨q, 0, none⟩) HS.out.2.2.2.1.inHeap).trans d0)
      refine wpIn_region_then_ends 10 (fun w' => w'.cell? ⟨w.heap.size, 0, none⟩ = some v ∧ w'.cell? ⟨q, 1, none⟩ = some (.int .u16 xs))
        (.e 0 :: .e 0 :: .e 0 :: .e 0 :: .e 0 :: .e 0 :: .l 0 :: .e 0 :: .l 0 :: .l 0 :: []) (by kernel_rfl) (by kernel_rfl) (by kernel_rfl) (by kernel_rfl) (by kernel_rfl) (by kernel_rfl) (by kernel_rfl) ?_
      simp only [List.take_succ_cons, List.take_zero, List.drop_succ_cons, List.drop_zero]
      have T1 : Hid (Below W.heap.size W W1.drew) := Lib.hid (H1.out.drew)
      have H3 := Lib.hid (HS.out.1.over T1.out HS.out.1.inHeap)
      have H4 := Lib.hid (HS.out.2.2.2.1.over T1.out HS.out.2.2.2.1.inHeap)
      have hHeld := And.intro (H3.out.read 0) (H4.out.read 1)
      repeat (refine mv_take0 (v := ?_) (by rfl) hHeld ?_ ?_; rotate_left 1; (focus (intro w hSw; (try dsimp only at hSw); obtain ⟨hs0, hs1⟩ := hSw; go_simp; (try with_reducible rfl); done)); (try simp only [Act.put, List.setIfInBounds_toArray, List.set_cons_zero, List.set_cons_succ]))
      refine mv_loud0 (by rfl) (fun K2 hK => ?_)
      go_simp
      go_at_call 25
      refine (D2.out _ (HS.out.2.2.2.2.1.trans (T1.out.mono HS.out.2.2.2.2.1.size))).mono ?_
      rintro e W3 ⟨rfl, hb⟩
      have T3 : Hid (Below W.heap.size W W3) := Lib.hid (T1.out.trans (hb.mono T1.out.size))
      clear hb hHeld
      have H5 := Lib.hid (HS.out.1.over T3.out HS.out.1.inHeap)
      have H6 := Lib.hid (HS.out.2.2.2.1.over T3.out HS.out.2.2.2.1.inHeap)
      have hHeld := And.intro (H5.out.read 0) (H6.out.read 1)
      refine hK.out _ _ hHeld ?_
      clear hK K2
      (try simp only [Act.put, List.setIfInBounds_toArray, List.set_cons_zero, List.set_cons_succ])
      repeat (refine mv_take0 (v := ?_) (by rfl) hHeld ?_ ?_; rotate_left 1; (focus (intro w hSw; (try dsimp only at hSw); obtain ⟨hs0, hs1⟩ := hSw; go_simp; (try with_reducible rfl); done)); (try simp only [Act.put, List.setIfInBounds_toArray, List.set_cons_zero, List.set_cons_succ]))
      refine mv_loud0 (by rfl) (fun K2 hK => ?_)
      go_simp
      refine hK.out _ _ ⟨(H5.out.more _).read 0, (H6.out.more _).read 1⟩ ?_
      clear hK K2
      (try simp only [Act.put, List.setIfInBounds_toArray, List.set_cons_zero, List.set_cons_succ])
      refine mv_loud0 (by rfl) (fun K2 hK => ?_)
      have hla := (HS.out.2.1.below T3.out).lane.more (.cells #[.string (st tc)] 9)
      have hli := Lane.lit W3 9 #[.string (st tc)] (by simp [maxLen])
      have hlen : (sv (pre.map itI)).length ≤ 32 := by rw [sv_len, List.length_map]; exact HS.out.2.2.2.2.2
      have hm := hK
      refine wp_append_lane _ _ 60 rfl 9 i0 (.string ByteArray.empty) 16 Tryd.underlying60 hi iz0 iz1 iz2 (by decide) v (.slice (some ⟨W3.heap.size, 0, none⟩) 1 1) (sv (pre.map itI)) [.string (st tc)] rfl rfl hla hli ?c1 ?c2 ?c3 ?_
      case c1 => intro u hu; simp at hu; subst hu; rfl
      case c2 => simp only [List.length_singleton, maxLen]; omega
      case c3 => simp only [List.length_singleton]; omega
      intro v2 W5 hl2 hg2 hb2
      have hfX : v.ownBlock ≠ some w.heap.size := fun e => by have := HS.out.2.1.far _ e; omega
      have hfq : v.ownBlock ≠ some q := HS.out.2.1.lane.far HS.out.2.2.2.1 (by decide)
      have hbx5 : Box W5 w.heap.size 60 #[v] := (hg2.block _ (H5.out.more _).inHeap (fun e => hfX e.symm)).trans (H5.out.more _)
      have hbq5 : Box W5 q 51 #[.int .u8 xg, .int .u16 xs] := (hg2.block _ (H6.out.more _).inHeap (fun e => hfq e.symm)).trans (H6.out.more _)
      refine hK.out _ _ ⟨hbx5.read 0, hbq5.read 1⟩ ?_
      clear hm hK K2
      (try simp only [Act.put, List.setIfInBounds_toArray, List.set_cons_zero, List.set_cons_succ])
      refine mv_thenE ?_
      have hsz4 := HBL.out.2.2
      have c0 := hbx5.read 0
      have f0 := hbx5.warm 0
      have hfar2 : ∀ b, v2.ownBlock = some b → w4.heap.size ≤ b := fun b hb => by
        rcases hb2 b hb with h1 | h1
        · exact HS.out.2.1.far b h1
        · have h2 : W3.heap.size + 1 ≤ b := by simpa using h1.1
          have h3 := T3.out.size
          have h4 := HS.out.2.2.1.size
          omega
      have hres : KeepsOthers W (W5.setCell ⟨w.heap.size, 0, none⟩ v2) ∧ KL w.heap.size w4.heap.size W (W5.setCell ⟨w.heap.size, 0, none⟩ v2) ∧ Tx w.heap.size w4.heap.size w4 (pre ++ [⟨xa, xg, xs, hxa, hxg, hxs⟩]) (W5.setCell ⟨w.heap.size, 0, none⟩ v2) := by
        refine ⟨((keeps_below T3.out).trans (KeepsOthers.alloc _ _)).trans ((KeepsOthers.of_grownBy hg2 fun j o hj ho => ?_).trans (KeepsOthers.setCell _ _ _)), fun k hk hkX cs t fz h => ?_, v2, box_eq (hbx5.put 0 _) rfl, ⟨?_, hfar2⟩, ?_⟩
        · rcases hla with ⟨h0, _⟩ | ⟨g, off, cap, cur, h0, hb, _⟩
          · rw [h0] at hj; cases hj
          · rw [h0] at hj
            cases hj
            have h9 : (W3.alloc (.cells #[.string (st tc)] 9)).heap[g]? = _ := hb
            rw [h9] at ho
            cases ho
            rfl
        · have hkl := (Array.getElem?_eq_some_iff.1 h).1
          have h1 := (T3.out.block k hkl).trans h
          have hkl3 := (Array.getElem?_eq_some_iff.1 h1).1
          have h2 := (Below.heap_alloc W3 (.cells #[.string (st tc)] 9) k hkl3).trans h1
          refine (Below.heap_setCell W5 ⟨w.heap.size, 0, none⟩ _ k hkX).trans ((hg2.block k (by simp; omega) fun e => ?_).trans h2)
          have := HS.out.2.1.far k e.symm
          omega
        · have h1 := hl2.putFar (p := ⟨w.heap.size, 0, none⟩) hbx5 (by decide) v2
          rw [List.map_append, List.map_singleton, HE.out]
          rw [show sv (pre.map itI ++ [tc]) = sv (pre.map itI) ++ [.string (st tc)] by simp [sv]]
          exact h1
        · have h1 := HS.out.2.2.1
          have h2 : Below w.heap.size w4 W3 := h1.trans (T3.out.mono (Nat.le_of_lt HS.out.1.inHeap))
          have h3 : Below w.heap.size w4 (W3.alloc (.cells #[.string (st tc)] 9)) := h2.alloc (by have := h2.size; omega) _
          exact ((h3.grown hg2 (by have := h3.size; omega) fun k e => by have := HS.out.2.1.far k e; omega)).setCell (p := ⟨w.heap.size, 0, none⟩) (Nat.le_refl _) _
      have HR := Lib.hid hres
      obtain ⟨a2, cap2, rfl, hne2⟩ := hl2.shape
      clear hres hfar2 hbx5 hbq5 hl2 hg2 hb2 hla hli hne2
      generalize (sv (pre.map itI) ++ [Value.string (st tc)]).length = ln at HR ⊢
      go_wp2_with fail
      exact ⟨HR.out.1.from _, HR.out.2.1, HR.out.2.2⟩
  case done =>
    rintro D ys W hD rfl ⟨v, hbx, hsw, hB⟩ hK
    subst hX
    have hms : (items 0 l).map itI = l.map itL := itI_items l 0 HQ.out.bmem (by have := HQ.out.top; omega)
    have hln := hsw.lane
    rw [hms] at hln
    have hlen : (sv (l.map itL)).length = l.length := by rw [sv_len, List.length_map]
    have hpos : 0 < l.length := List.length_pos_iff.2 hl0
    have htx : (txL l).length ≤ 42 * 32 := by
      have := txL_len HQ.out.bnd l.length
      rw [List.take_length] at this
      omega
    rcases hln with ⟨_, h0⟩ | ⟨g, off, cap, cur, rfl, hb, l1, l2, l3, l4⟩
    · rw [h0] at hlen
      simp at hlen
      omega
    · have hJn := HJ.out g off cap (l.map fun x => st (itL x)) ⟨#[32]⟩ W (fun j x hx => by
        rw [List.getElem?_map] at hx
        obtain ⟨y, hy, rfl⟩ := Option.map_eq_some_iff.1 hx
        exact (hb.read _).trans (l4 j _ (by simp [sv, hy]))) hb.inHeap (by rw [List.length_map]; omega) (by rw [List.length_map]; omega) (by
          rw [List.map_map]
          exact Nat.le_trans (show (txL l).length ≤ _ from htx) (by omega))
      have e1 : Lib.join ((l.map fun x => st (itL x)).map (·.data.toList)) (⟨#[32]⟩ : ByteArray).data.toList = txL l := by
        rw [List.map_map]
        rfl
      rw [e1, List.length_map] at hJn
      rw [hlen] at hbx
      have HJn := Lib.hid hJn
      have c0 := hbx.read 0
      have HR := Lib.hid (And.intro hB hK)
      have hDl := (Array.getElem?_eq_some_iff.1 hK).1
      clear hJn hbx hB hK l1 l2 l3 l4 hb hsw hxx hxn hq4
      gi_wp2_with (refine ⟨trivial, ?_⟩; gi_at_call 26; refine (callsIn_wide.2 HJn.out).mono ?_; rintro e W2 ⟨rfl, hb⟩)
      have hK2 : W2.heap[D]? = some (.deferred (some [])) := (hb.block D hDl).trans HR.out.2
      refine ⟨by simp, .inl ⟨_, _, rfl, run_takeDeferred hK2, ?_⟩⟩
      have hww : Below w.heap.size w W := HBL.out.1.trans HR.out.1
      exact ⟨_, results_tmp rfl _ _ _, rfl, (hww.trans (hb.mono hww.size)).trans (belowK_b (w := w) (Nat.le_refl _) W2 D _ _ (by omega) hK2 rfl rfl)⟩
  case stop =>
    rintro D c pre W _ _ h _
    exact h.elim
end Go.Proofs.YtnfnhhphoiebbaaDoor
