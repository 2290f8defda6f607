/- Whose a step is: Owner. -/
import Derived.Test.YtnfnhhphoiebbaaDoorFk
set_option linter.unusedVariables false
set_option linter.unusedSimpArgs false
namespace Go.Proofs.YtnfnhhphoiebbaaDoor
open Go.RowKit Go.Shelf
attribute [local go_sem] Oper.semAt_some
def lastG (cur : Nat) (x : It) : Nat := x.g
theorem last_items (pl : Nat) : ∀ (l : List Win) (s cur : Nat), (∀ w ∈ l, w.1 < 256) → s + tot l ≤ 1024 → (∀ x ∈ items s l, x.a ≤ pl) → (items s l).foldl lastG cur = ownF l s pl cur
  | [], s, cur, _, _, _ => rfl
  | w :: r, s, cur, hb, ht, h => by
    have h1 := hb w List.mem_cons_self
    simp only [tot] at ht
    have h2 := h (toIt s w) (by simp [items])
    have h3 : (toIt s w).a = s := by simp only [toIt]; omega
    simp only [items, List.foldl_cons, ownF]
    rw [if_neg (by omega), last_items pl r _ _ (fun v hv => hb v (List.mem_cons_of_mem _ hv)) (by omega) (fun x hx => h x (by simp [items, hx]))]
    congr 1
    simp only [lastG, toIt]
    omega
theorem last_pre (pl : Nat) : ∀ (l : List Win) (s cur : Nat) (pre : List It) (x : It), (∀ w ∈ l, w.1 < 256) → s + tot l ≤ 1024 → pre ++ [x] <+: items s l → (∀ y ∈ pre, y.a ≤ pl) → pl < x.a → pre.foldl lastG cur = ownF l s pl cur
  | [], s, cur, pre, x, _, _, h, _, _ => by
    simp [items] at h
  | w :: r, s, cur, [], x, hb, ht, h, _, hx => by
    simp only [items, List.nil_append] at h
    obtain ⟨t, h⟩ := h
    simp only [List.cons_append, List.cons.injEq] at h
    simp only [tot] at ht
    have h3 : (toIt s w).a = s := by simp only [toIt]; omega
    rw [h.1, h3] at hx
    simp only [List.foldl_nil, ownF]
    rw [if_pos hx]
  | w :: r, s, cur, y :: pre, x, hb, ht, h, hy, hx => by
    have h1 := hb w List.mem_cons_self
    simp only [items, List.cons_append] at h
    rw [List.cons_prefix_cons] at h
    obtain ⟨rfl, h⟩ := h
    simp only [tot] at ht
    have h2 := hy (toIt s w) List.mem_cons_self
    have h3 : (toIt s w).a = s := by simp only [toIt]; omega
    simp only [List.foldl_cons, ownF]
    rw [if_neg (by omega), last_pre pl r _ _ pre x (fun v hv => hb v (List.mem_cons_of_mem _ hv)) (by omega) h (fun z hz => hy z (List.mem_cons_of_mem _ hz)) hx]
    congr 1
    simp only [lastG, toIt]
    omega
theorem last_lt (pre : List It) (cur : Nat) (h : cur < 256) : pre.foldl lastG cur < 256 := by
  induction pre generalizing cur with
  | nil => exact h
  | cons x r ih => exact ih _ x.hg
set_option maxRecDepth 100000 in
set_option maxHeartbeats 4000000 in
theorem owner_any {w : World} {p wb wc bb bo bc : Nat} {l : List Win} (hq : Tb w p wb wc bb bo bc l) (st : Nat) (hst : st < 18446744073709551616) : Calls Tryd.prog 14 #[.pointer (some ⟨p, 0, none⟩), .int .u64 st] w fun e w' => e = .returned (.int .u8 ((fr l).getD (st % tot l) 0 : Nat)) ∧ Below w.heap.size w w' := by
  refine (callsIn_wide (n := 9)).1 ?_
  have c2 : w.cell? ⟨p, 2, none⟩ = some (.int .u64 (tot l)) := hq.box.read 2
  have t1 : (0 : Int) < (tot l : Int) := by have := hq.pos; omega
  have t2 : (tot l : Int) ≤ 1024 := by have := hq.top; omega
  have t3 : ((tot l : Int) == 0) = false := beq_eq_false_iff_ne.2 (by omega)
  have HM := Lib.hid (made_any hq)
  have HQ := Lib.hid hq
  clear hq
  refine callsIn_of_wp_marks Tryd.func14 rfl trivial ?_ rfl
  simp only [Tryd.ntmps14, List.size_toArray, List.length_cons, List.length_nil, Nat.reduceAdd, Nat.reduceSub, Array.replicate_succ, Array.replicate_zero, List.push_toArray, List.append_toArray, List.nil_append, List.cons_append]
  gi_wp2_with (first
    | (refine ⟨trivial, ?_⟩; gi_at_call 24; refine (callsIn_wide.2 HM.out).mono ?_; rintro e w' ⟨rfl, rfl⟩)
    | (refine ⟨trivial, ?_⟩; gi_at_call 19; refine (callsIn_wide.2 (windows_any p _)).mono ?_; rintro e w' ⟨rfl, rfl⟩))
  have hpe : (st : Int) % (tot l : Int) = ((st % tot l : Nat) : Int) := rfl
  rw [hpe]
  have hpl : st % tot l < tot l := Nat.mod_lt _ HQ.out.pos
  clear hpe
  generalize hpp : st % tot l = pl at hpl ⊢
  have HPP := Lib.hid hpp
  clear hpp
  obtain ⟨X, hX⟩ : ∃ X, X = w.heap.size + 1 := ⟨_, rfl⟩
  obtain ⟨w4, hw4⟩ : ∃ w4, w4 = ((w.alloc (.cells #[.int .u64 pl] 32)).alloc (.cells #[.int .u8 255] 5)).alloc (.cells #[.pointer (some ⟨p, 0, none⟩)] 26) := ⟨_, rfl⟩
  have bl : Below w.heap.size w w4 := by rw [hw4]; exact (((Below.refl _ w).alloc (Nat.le_refl _) _).alloc (by simp) _).alloc (by simp; omega) _
  have hs4 : w4.heap.size = X + 2 := by rw [hw4, hX]; simp
  have hxp : Box w4 w.heap.size 32 #[.int .u64 pl] := by rw [hw4]; exact (((Box.made w 32 _).more _).more _)
  have hxx : Box w4 X 5 #[.int .u8 255] := by
    have := Box.made (w.alloc (.cells #[.int .u64 pl] 32)) 5 #[.int .u8 255]
    rw [World.size_alloc] at this
    rw [hw4, hX]; exact this.more _
  have hxn : Box w4 (X + 1) 26 #[.pointer (some ⟨p, 0, none⟩)] := by
    have := Box.made ((w.alloc (.cells #[.int .u64 pl] 32)).alloc (.cells #[.int .u8 255] 5)) 26 #[.pointer (some ⟨p, 0, none⟩)]
    rw [World.size_alloc, World.size_alloc] at this
    rw [hw4, hX]; exact this
  have hq4 : Tb w4 p wb wc bb bo bc l := HQ.out.over bl (Nat.le_refl _)
  have hpX : p < w.heap.size := HQ.out.box.inHeap
  have hwX : wb < w.heap.size := by obtain ⟨_, b, _⟩ := HQ.out.wbx; exact b.inHeap
  have hbX : bb < w.heap.size := by obtain ⟨_, b, _⟩ := HQ.out.bbx; exact b.inHeap
  have hend : (fr l).getD pl 0 = ownF l 0 pl 255 := by
    have h1 := ownF_at l 0 pl 255 (Nat.zero_le _) (by omega)
    rw [Nat.sub_zero] at h1
    exact h1.symm
  have HE := Lib.hid hend
  rw [← hw4, ← hX]
  have HBL := Lib.hid (And.intro bl (And.intro hX hs4))
  have hwX2 : w.heap.size < X := by omega
  clear hw4 bl hX hend c2
  generalize htt : (tot l : Int) = tt at t1 t2 t3 ⊢
  have HTT := Lib.hid htt
  clear htt t3
  refine wpIn_rangeFunc_ownH rfl (by omega) (gf := 30) (lb := #[.pointer (some ⟨X + 1, 0, none⟩)]) rfl trivial (enters_of Tryd.func30 (by kernel_rfl) rfl)
    (iter_win (n := 8) (by omega) X (X + 1) (by omega) (by omega) (by omega) (by omega) (by omega) (by omega) hq4 hxn) KX.t (KX.b (n := w4.heap.size)) (Below.refl _ _) (fun _ => rfl)
    (fun pre W => Box W X 5 #[.int .u8 (pre.foldl lastG 255 : Nat)] ∧ Below X w4 W ∧ ∀ y ∈ pre, y.a ≤ pl)
    (fun c pre W => c = .exit 0 ∧ ∃ pre' x, pre = pre' ++ [x] ∧ pl < x.a ∧ (∀ y ∈ pre', y.a ≤ pl) ∧ Box W X 5 #[.int .u8 (pre'.foldl lastG 255 : Nat)] ∧ Below X w4 W)
    (fun s W W' row h hg hr => ⟨box_ownF _ X 5 (fun pre : List It => #[.int .u8 (pre.foldl lastG 255 : Nat)]) s W W' row h.1 hg hr, ownFrom_below (by omega) (by omega) s W W' row h.2.1 hg hr, h.2.2⟩)
    (fun c => by
      rintro s W W' row ⟨e, pre', x, e2, h1, h2, h3, h4⟩ hg hr
      exact ⟨e, pre', x, e2, h1, h2, box_ownF _ X 5 (fun pre : List It => #[.int .u8 (pre.foldl lastG 255 : Nat)]) pre' W W' row h3 hg hr, ownFrom_below (by omega) (by omega) s W W' row h4 hg hr⟩)
    ⟨hxx, Below.refl _ _, fun y hy => by cases hy⟩
    (fun x a' W => ∃ q, a' = { tmps := #[.pointer (some ⟨p, 0, none⟩), .int .u64 st, undef, undef, .int .u8 0, .pointer (some ⟨w.heap.size, 0, none⟩), .pointer (some ⟨X, 0, none⟩), .int .u64 x.a, .pointer (some ⟨q, 0, none⟩), .pointer (some ⟨p, 0, none⟩), .bool true, .bool false, .int .u64 st, .pointer (some ⟨p, 0, none⟩), .pointer (some ⟨p, 0, none⟩), .pointer (some ⟨p, 2, none⟩), .int .u64 tt, .int .u64 pl, .pointer (some ⟨p, 0, none⟩), .func (.func 30) #[] #[.pointer (some ⟨X + 1, 0, none⟩)], .int .u64 x.a, .agg #[.int .u8 x.g, .int .u16 x.s], undef, undef, undef, undef, undef, undef], defers := [] } ∧ X < q ∧ Box W q 51 #[.int .u8 x.g, .int .u16 x.s])
    (fun x a' s W W' row ⟨q, e, hq, hb⟩ hg hr => ⟨q, e, hq, box_ownF w4.heap.size q 51 (fun _ : Unit => #[.int .u8 x.g, .int .u16 x.s]) s W W' row hb hg hr⟩)
    ?assign ?body ?done ?stop
  case assign =>
    rintro lv pre x W K ⟨hbx, hB, hall⟩ hK
    have HK := Lib.hid hK
    have HX := Lib.hid hbx
    have HB := Lib.hid hB
    have HA := Lib.hid hall
    clear hK hbx hB hall
    gi_wp2
    refine HK.out _ _ ((KeepsOthers.alloc _ _).from _) (KX.below ((Below.refl _ W).alloc (Nat.le_refl _) _)) ⟨HX.out.more _, HB.out.alloc (Nat.le_of_lt HX.out.inHeap) _, HA.out⟩ ⟨W.heap.size, rfl, HX.out.inHeap, Box.made W 51 _⟩
  case body =>
    rintro lv pre x a' W _ _ ⟨hbx, hB, hall⟩ ⟨q, rfl, hqX, hbq⟩ hpl2
    have d0 : W.cell? ⟨q, 0, none⟩ = some (.int .u8 x.g) := hbq.read 0
    have d2 : W.cell? ⟨w.heap.size, 0, none⟩ = some (.int .u64 pl) := (hB.cell (p := ⟨w.heap.size, 0, none⟩) (by show w.heap.size < X; omega)).trans (hxp.read 0)
    have d4 : W.cell? ⟨X, 0, none⟩ = some (.int .u8 (pre.foldl lastG 255 : Nat)) := hbx.read 0
    have d5 := hbx.warm 0
    have HS := Lib.hid (And.intro hbx (And.intro hB hall))
    have hxa := x.ha
    have hxg8 := x.hg
    have hsn : (pre ++ [x]).foldl lastG 255 = x.g := by simp [lastG]
    have HN := Lib.hid hsn
    clear hbx hB hbq hpl2 hxn hq4 hall hsn
    generalize pre.foldl lastG 255 = m at d4
    have k1 : (0 : Int) ≤ (x.a : Int) := Int.natCast_nonneg _
    have k3 : (0 : Int) ≤ (pl : Int) := Int.natCast_nonneg _
    by_cases hap : pl < x.a
    · have e2 : (pl : Int) < (x.a : Int) := by omega
      have HV := Lib.hid hap
      clear hap
      gi_wp2
      exact ⟨KeepsFrom.refl _ _, rfl, pre, x, rfl, HV.out, HS.out.2.2, HS.out.1, HS.out.2.1⟩
    · have e2 : ¬ (pl : Int) < (x.a : Int) := by omega
      have e3 : decide ((pl : Int) < (x.a : Int)) = false := decide_eq_false e2
      have HV := Lib.hid hap
      clear hap
      gi_wp2
      exact ⟨(KeepsOthers.setCell _ _ _).from _, fun k hk cs t fz h => (Below.heap_setCell W ⟨X, 0, none⟩ _ k hk).trans h, box_eq (HS.out.1.put 0 _) (by rw [HN.out]; rfl), HS.out.2.1.setCell (p := ⟨X, 0, none⟩) (Nat.le_refl _) _, fun y hy => by
        rcases List.mem_append.1 hy with hy | hy
        · exact HS.out.2.2 y hy
        · simp at hy; rw [hy]; have := HV.out; omega⟩
  case done =>
    rintro D ys W hD rfl ⟨hbx, hB, hall⟩ hK
    have ha : (items 0 l).foldl lastG 255 = (fr l).getD pl 0 := (last_items pl l 0 255 HQ.out.bmem (by have := HQ.out.top; omega) hall).trans HE.out.symm
    have hc : W.cell? ⟨X, 0, none⟩ = some (.int .u8 ((fr l).getD pl 0 : Nat)) := by rw [← ha]; exact hbx.read 0
    have HR := Lib.hid (And.intro hB hK)
    clear ha hall hbx hB hK
    generalize hrr : (fr l).getD pl 0 = r at hc
    have HRR := Lib.hid hrr
    clear hrr
    gi_wp2
    refine ⟨by simp, .inl ⟨_, _, rfl, run_takeDeferred HR.out.2, ?_⟩⟩
    have hfin : r = (fr l).getD (st % tot l) 0 := by rw [HPP.out]; exact HRR.out.symm
    refine ⟨_, results_tmp rfl _ _ _, ?_, (HBL.out.1.trans (HR.out.1.mono (by omega))).trans (belowK_b (w := w) (Nat.le_refl _) W D _ _ (by omega) HR.out.2 rfl rfl)⟩
    exact retN hfin
  case stop =>
    rintro D c pre W hD hpre ⟨rfl, pre', x, rfl, h1, h2, hbx, hB⟩ hK
    have ha : pre'.foldl lastG 255 = (fr l).getD pl 0 := (last_pre pl l 0 255 pre' x HQ.out.bmem (by have := HQ.out.top; omega) hpre h2 h1).trans HE.out.symm
    have hc : W.cell? ⟨X, 0, none⟩ = some (.int .u8 ((fr l).getD pl 0 : Nat)) := by rw [← ha]; exact hbx.read 0
    have HR := Lib.hid (And.intro hB hK)
    clear ha hbx hB hK h1 h2 hpre
    generalize hrr : (fr l).getD pl 0 = r at hc
    have HRR := Lib.hid hrr
    clear hrr
    gi_wp2
    refine ⟨by simp, .inl ⟨_, _, rfl, run_takeDeferred HR.out.2, ?_⟩⟩
    have hfin : r = (fr l).getD (st % tot l) 0 := by rw [HPP.out]; exact HRR.out.symm
    refine ⟨_, results_tmp rfl _ _ _, ?_, (HBL.out.1.trans (HR.out.1.mono (by omega))).trans (belowK_b (w := w) (Nat.le_refl _) W D _ _ (by omega) HR.out.2 rfl rfl)⟩
    exact retN hfin
end Go.Proofs.YtnfnhhphoiebbaaDoor
