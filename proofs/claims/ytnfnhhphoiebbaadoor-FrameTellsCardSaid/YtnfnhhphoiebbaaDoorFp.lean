/- How far a guest's first step from a place on is: away. -/
import Derived.Test.YtnfnhhphoiebbaaDoorFn
set_option linter.unusedVariables false
set_option linter.unusedSimpArgs false
namespace Go.Proofs.YtnfnhhphoiebbaaDoor
open Go.RowKit Go.Shelf
attribute [local go_sem] Oper.semAt_some
theorem results_cell2 {fn : Func} {p q : Tmp} {ty tz : TypeId} (h : fn.results = #[.cell p ty, .cell q tz]) (tmps : Array Value) (P : Program) (w : World) (g k : Nat) (v u : Value) (hp : tmps.getD p undef = .pointer (some ⟨g, 0, none⟩)) (hq : tmps.getD q undef = .pointer (some ⟨k, 0, none⟩)) (hc : w.cell? ⟨g, 0, none⟩ = some v) (hd : w.cell? ⟨k, 0, none⟩ = some u)
    (ha : (isAgg ty).run P w = .ok false w) (hb : (isAgg tz).run P w = .ok false w) :
    (results fn tmps).run P w = .ok (.tuple #[v, u]) w := by
  have hp' : tmps[p]?.getD undef = .pointer (some ⟨g, 0, none⟩) := by simpa using hp
  have hq' : tmps[q]?.getD undef = .pointer (some ⟨k, 0, none⟩) := by simpa using hq
  simp only [results, h]
  simp [asAddr, loadVar, go_sem, hp', hq', ha, hb, hc, hd, Result.andThen]
/-- An element that ends the search. -/
def hits (g pl : Nat) (x : It) : Prop := x.g = g ∧ pl < x.a + x.s
theorem away_none (g pl : Nat) : ∀ (l : List Win) (s : Nat), (∀ w ∈ l, w.1 < 256) → s + tot l ≤ 1024 → (∀ x ∈ items s l, ¬ hits g pl x) → awayF g l s pl = none
  | [], s, _, _, _ => rfl
  | w :: r, s, hb, ht, h => by
    have h1 := hb w List.mem_cons_self
    simp only [tot] at ht
    have h2 := h (toIt s w) (by simp [items])
    have h3 : hits g pl (toIt s w) ↔ w.1 = g ∧ pl < s + w.2 := by
      simp only [hits, toIt]
      rw [Nat.mod_eq_of_lt h1, Nat.min_eq_left (by omega : s ≤ 1024), Nat.min_eq_left (by omega : w.2 ≤ 1024)]
    unfold awayF
    rw [if_neg (fun h => h2 (h3.2 h))]
    exact away_none g pl r _ (fun v hv => hb v (List.mem_cons_of_mem _ hv)) (by omega) (fun x hx => h x (by simp [items, hx]))
theorem away_pre (g pl : Nat) : ∀ (l : List Win) (s : Nat) (pre : List It) (x : It), (∀ w ∈ l, w.1 < 256) → s + tot l ≤ 1024 → pre ++ [x] <+: items s l → (∀ y ∈ pre, ¬ hits g pl y) → hits g pl x → awayF g l s pl = some (max x.a pl - pl)
  | [], s, pre, x, _, _, h, _, _ => by simp [items] at h
  | w :: r, s, [], x, hb, ht, h, _, hx => by
    have h1 := hb w List.mem_cons_self
    simp only [items, List.nil_append] at h
    obtain ⟨t, h⟩ := h
    simp only [List.cons_append, List.cons.injEq] at h
    simp only [tot] at ht
    obtain ⟨rfl, _⟩ := h
    simp only [hits, toIt] at hx
    rw [Nat.mod_eq_of_lt h1, Nat.min_eq_left (by omega : s ≤ 1024), Nat.min_eq_left (by omega : w.2 ≤ 1024)] at hx
    unfold awayF
    rw [if_pos hx]
    simp only [toIt]
    rw [Nat.min_eq_left (by omega : s ≤ 1024)]
  | w :: r, s, y :: pre, x, hb, ht, h, hy, hx => by
    have h1 := hb w List.mem_cons_self
    simp only [items, List.cons_append] at h
    rw [List.cons_prefix_cons] at h
    obtain ⟨rfl, h⟩ := h
    simp only [tot] at ht
    have h2 := hy (toIt s w) List.mem_cons_self
    have h3 : hits g pl (toIt s w) ↔ w.1 = g ∧ pl < s + w.2 := by
      simp only [hits, toIt]
      rw [Nat.mod_eq_of_lt h1, Nat.min_eq_left (by omega : s ≤ 1024), Nat.min_eq_left (by omega : w.2 ≤ 1024)]
    unfold awayF
    rw [if_neg (fun h => h2 (h3.2 h))]
    exact away_pre g pl r _ pre x (fun v hv => hb v (List.mem_cons_of_mem _ hv)) (by omega) h (fun z hz => hy z (List.mem_cons_of_mem _ hz)) hx
/-- What away answers. -/
def awayV (o : Option Nat) : Value := match o with
  | some d => .tuple #[.int .u64 d, .bool true]
  | none => .tuple #[.int .u64 0, .bool false]
set_option maxRecDepth 100000 in
set_option maxHeartbeats 4000000 in
theorem away_any {w : World} {p wb wc bb bo bc : Nat} {l : List Win} (hq : Tb w p wb wc bb bo bc l) (g pl : Nat) (hg : g < 256) (hpl : pl ≤ 1024) : Calls Tryd.prog 28 #[.pointer (some ⟨p, 0, none⟩), .int .u8 g, .int .u64 pl] w fun e w' => e = .returned (awayV (awayF g l 0 pl)) ∧ Below w.heap.size w w' := by
  refine (callsIn_wide (n := 9)).1 ?_
  have HQ := Lib.hid hq
  clear hq
  refine callsIn_of_wp_marks Tryd.func28 rfl trivial ?_ rfl
  simp only [Tryd.ntmps28, List.size_toArray, List.length_cons, List.length_nil, Nat.reduceAdd, Nat.reduceSub, Array.replicate_succ, Array.replicate_zero, List.push_toArray, List.append_toArray, List.nil_append, List.cons_append]
  gi_wp2_with (refine ⟨trivial, ?_⟩; gi_at_call 19; refine (callsIn_wide.2 (windows_any p _)).mono ?_; rintro e w' ⟨rfl, rfl⟩)
  obtain ⟨X, hX⟩ : ∃ X, X = w.heap.size + 1 + 1 := ⟨_, rfl⟩
  obtain ⟨w5, hw5⟩ : ∃ w5, w5 = ((((w.alloc (.cells #[.int .u8 g] 5)).alloc (.cells #[.int .u64 pl] 32)).alloc (.cells #[.int .u64 0] 32)).alloc (.cells #[.bool false] 4)).alloc (.cells #[.pointer (some ⟨p, 0, none⟩)] 26) := ⟨_, rfl⟩
  have bl : Below w.heap.size w w5 := by rw [hw5]; exact (((((Below.refl _ w).alloc (Nat.le_refl _) _).alloc (by simp) _).alloc (by simp; omega) _).alloc (by simp; omega) _).alloc (by simp; omega) _
  have hs5 : w5.heap.size = X + 3 := by rw [hw5, hX]; simp
  have hxg : Box w5 w.heap.size 5 #[.int .u8 g] := by rw [hw5]; exact (((((Box.made w 5 _).more _).more _).more _).more _)
  have hxp : Box w5 (w.heap.size + 1) 32 #[.int .u64 pl] := by
    have := Box.made (w.alloc (.cells #[.int .u8 g] 5)) 32 #[.int .u64 pl]
    rw [World.size_alloc] at this
    rw [hw5]; exact ((this.more _).more _).more _
  have hxx : Box w5 X 32 #[.int .u64 0] := by
    have := Box.made ((w.alloc (.cells #[.int .u8 g] 5)).alloc (.cells #[.int .u64 pl] 32)) 32 #[.int .u64 0]
    rw [World.size_alloc, World.size_alloc] at this
    rw [hw5, hX]; exact (this.more _).more _
  have hxb : Box w5 (X + 1) 4 #[.bool false] := by
    have := Box.made (((w.alloc (.cells #[.int .u8 g] 5)).alloc (.cells #[.int .u64 pl] 32)).alloc (.cells #[.int .u64 0] 32)) 4 #[.bool false]
    rw [World.size_alloc, World.size_alloc, World.size_alloc] at this
    rw [hw5, hX]; exact this.more _
  have hxn : Box w5 (X + 2) 26 #[.pointer (some ⟨p, 0, none⟩)] := by
    have := Box.made ((((w.alloc (.cells #[.int .u8 g] 5)).alloc (.cells #[.int .u64 pl] 32)).alloc (.cells #[.int .u64 0] 32)).alloc (.cells #[.bool false] 4)) 26 #[.pointer (some ⟨p, 0, none⟩)]
    rw [World.size_alloc, World.size_alloc, World.size_alloc, World.size_alloc] at this
    rw [hw5, hX]; exact this
  have hq5 : Tb w5 p wb wc bb bo bc l := HQ.out.over bl (Nat.le_refl _)
  have hpX : p < w.heap.size := HQ.out.box.inHeap
  have hwX : wb < w.heap.size := by obtain ⟨_, b, _⟩ := HQ.out.wbx; exact b.inHeap
  have hbX : bb < w.heap.size := by obtain ⟨_, b, _⟩ := HQ.out.bbx; exact b.inHeap
  rw [← hw5, ← hX]
  have HBL := Lib.hid (And.intro bl (And.intro hX hs5))
  have hwX2 : w.heap.size + 1 < X := by omega
  clear hw5 bl hX
  refine wpIn_rangeFunc_ownH rfl (by omega) (gf := 30) (lb := #[.pointer (some ⟨X + 2, 0, none⟩)]) rfl trivial (enters_of Tryd.func30 (by kernel_rfl) rfl)
    (iter_win (n := 8) (by omega) X (X + 2) (by omega) (by omega) (by omega) (by omega) (by omega) (by omega) hq5 hxn) KX.t (KX.b (n := w5.heap.size)) (Below.refl _ _) (fun _ => rfl)
    (fun pre W => Below (X + 3) w5 W ∧ ∀ y ∈ pre, ¬ hits g pl y)
    (fun c pre W => c = .ret ∧ ∃ pre' x, pre = pre' ++ [x] ∧ hits g pl x ∧ (∀ y ∈ pre', ¬ hits g pl y) ∧ Box W X 32 #[.int .u64 (max x.a pl - pl : Nat)] ∧ Box W (X + 1) 4 #[.bool true] ∧ Below X w5 W)
    (fun s W W' row h hg hr => ⟨ownFrom_below (n₀ := X + 3) (by omega) (by omega) s W W' row h.1 hg hr, h.2⟩)
    (fun c => by
      rintro s W W' row ⟨e, pre', x, e2, h1, h2, h3, h3b, h4⟩ hg hr
      exact ⟨e, pre', x, e2, h1, h2, box_ownF _ X 32 (fun _ : Unit => #[.int .u64 (max x.a pl - pl : Nat)]) () W W' row h3 hg hr, box_ownF _ (X + 1) 4 (fun _ : Unit => #[.bool true]) () W W' row h3b hg hr, ownFrom_below (by omega) (by omega) s W W' row h4 hg hr⟩)
    ⟨Below.refl _ _, fun y hy => by cases hy⟩
    (fun x a' W => ∃ q, a' = { tmps := #[.pointer (some ⟨p, 0, none⟩), .int .u8 g, .int .u64 pl, undef, .pointer (some ⟨w.heap.size, 0, none⟩), .pointer (some ⟨w.heap.size + 1, 0, none⟩), .pointer (some ⟨X, 0, none⟩), .pointer (some ⟨X + 1, 0, none⟩), .int .u64 x.a, .pointer (some ⟨q, 0, none⟩), .pointer (some ⟨p, 0, none⟩), .func (.func 30) #[] #[.pointer (some ⟨X + 2, 0, none⟩)], .int .u64 x.a, .agg #[.int .u8 x.g, .int .u16 x.s], undef, undef, undef, undef, undef, undef, undef, undef, undef, undef, undef, undef, undef, undef, undef, undef, undef, undef], defers := [] } ∧ X + 1 < q ∧ Box W q 51 #[.int .u8 x.g, .int .u16 x.s])
    (fun x a' s W W' row ⟨q, e, hq, hb⟩ hg hr => ⟨q, e, hq, box_ownF w5.heap.size q 51 (fun _ : Unit => #[.int .u8 x.g, .int .u16 x.s]) s W W' row hb hg hr⟩)
    ?assign ?body ?done ?stop
  case assign =>
    rintro lv pre x W K ⟨hB, hall⟩ hK
    have HK := Lib.hid hK
    have HB := Lib.hid hB
    have HA := Lib.hid hall
    clear hK hB hall
    gi_wp2
    refine HK.out _ _ ((KeepsOthers.alloc _ _).from _) (KX.below ((Below.refl _ W).alloc (Nat.le_refl _) _)) ⟨HB.out.alloc (by have := HB.out.size; omega) _, HA.out⟩ ⟨W.heap.size, rfl, by have := HB.out.size; omega, Box.made W 51 _⟩
  case body =>
    rintro lv pre x a' W _ _ ⟨hB, hall⟩ ⟨q, rfl, hqX, hbq⟩ hpl2
    have d0 : W.cell? ⟨q, 0, none⟩ = some (.int .u8 x.g) := hbq.read 0
    have d1 : W.cell? ⟨q, 1, none⟩ = some (.int .u16 x.s) := hbq.read 1
    have hbg := hxg.over hB (by omega)
    have hbp := hxp.over hB (by omega)
    have hbx := hxx.over hB (by omega)
    have hbb := hxb.over hB (by omega)
    have d2 : W.cell? ⟨w.heap.size, 0, none⟩ = some (.int .u8 g) := hbg.read 0
    have d3 : W.cell? ⟨w.heap.size + 1, 0, none⟩ = some (.int .u64 pl) := hbp.read 0
    have d4 : W.cell? ⟨X, 0, none⟩ = some (.int .u64 0) := hbx.read 0
    have d5 := hbx.warm 0
    have d6 : W.cell? ⟨X + 1, 0, none⟩ = some (.bool false) := hbb.read 0
    have d7 := hbb.warm 0
    have HS := Lib.hid (And.intro hB (And.intro hall (And.intro hbx hbb)))
    have hxa := x.ha
    have hxs := x.hs
    have hxg8 := x.hg
    clear hB hbq hpl2 hxn hq5 hall hbx hbb hbg hbp hxg hxp hxx hxb
    obtain ⟨xa, xg, xs, _, _, _⟩ := x
    dsimp only at d0 d1 hxa hxs hxg8 ⊢
    have k1 : (0 : Int) ≤ (xa : Int) := Int.natCast_nonneg _
    have k2 : (0 : Int) ≤ (xs : Int) := Int.natCast_nonneg _
    have k3 : (0 : Int) ≤ (pl : Int) := Int.natCast_nonneg _
    by_cases hxe : xg = g
    · have e1 : ((xg : Int) == (g : Int)) = true := by simp [hxe]
      by_cases hap : pl < xa + xs
      · have e2 : (pl : Int) < (xa : Int) + (xs : Int) := by omega
        have HV := Lib.hid (And.intro hxe hap)
        clear hxe hap
        gi_wp2
        all_goals exact ⟨((KeepsOthers.setCell _ _ _).trans (KeepsOthers.setCell _ _ _)).from _, rfl, pre, _, rfl, HV.out, HS.out.2.1, box_eq ((HS.out.2.2.1.put 0 _).putFar (p := ⟨X + 1, 0, none⟩) (by show X ≠ X + 1; omega) _) (cells_eq (show _ = ((max xa pl - pl : Nat) : Int) by omega)), box_eq ((HS.out.2.2.2.putFar (p := ⟨X, 0, none⟩) (by show X + 1 ≠ X; omega) _).put 0 _) rfl, ((HS.out.1.mono (show X ≤ X + 3 by omega)).setCell (p := ⟨X, 0, none⟩) (Nat.le_refl _) _).setCell (p := ⟨X + 1, 0, none⟩) (by show X ≤ X + 1; omega) _⟩
      · have e2 : ¬ (pl : Int) < (xa : Int) + (xs : Int) := by omega
        have e3 : decide ((pl : Int) < (xa : Int) + (xs : Int)) = false := decide_eq_false e2
        have HV := Lib.hid (And.intro hxe hap)
        clear hxe hap
        gi_wp2
        exact ⟨KeepsFrom.refl _ _, fun _ _ _ _ _ h => h, HS.out.1, fun y hy => by
          rcases List.mem_append.1 hy with hy | hy
          · exact HS.out.2.1 y hy
          · simp at hy; rw [hy]; exact fun h => HV.out.2 h.2⟩
    · have e1 : ((xg : Int) == (g : Int)) = false := beq_eq_false_iff_ne.2 (by omega)
      have HV := Lib.hid hxe
      clear hxe
      gi_wp2
      exact ⟨KeepsFrom.refl _ _, fun _ _ _ _ _ h => h, HS.out.1, fun y hy => by
        rcases List.mem_append.1 hy with hy | hy
        · exact HS.out.2.1 y hy
        · simp at hy; rw [hy]; exact fun h => HV.out h.1⟩
  case done =>
    rintro D ys W hD rfl ⟨hB, hall⟩ hK
    have ha := away_none g pl l 0 HQ.out.bmem (by have := HQ.out.top; omega) hall
    have HN := Lib.hid ha
    have hbx := hxx.over hB (by omega)
    have hbb := hxb.over hB (by omega)
    have d4 : W.cell? ⟨X, 0, none⟩ = some (.int .u64 0) := hbx.read 0
    have d5 := hbx.warm 0
    have d6 : W.cell? ⟨X + 1, 0, none⟩ = some (.bool false) := hbb.read 0
    have d7 := hbb.warm 0
    have HR := Lib.hid (And.intro hB (And.intro hK (And.intro hbx hbb)))
    clear ha hall hB hK hbx hbb
    gi_wp2
    have hDX : D ≠ X := by omega
    have hDY : D ≠ X + 1 := by omega
    obtain ⟨W2, hW2⟩ : ∃ W2, W2 = (W.setCell ⟨X, 0, none⟩ (.int .u64 0)).setCell ⟨X + 1, 0, none⟩ (.bool false) := ⟨_, rfl⟩
    have hxz : Box W2 X 32 #[.int .u64 0] := by rw [hW2]; exact box_eq ((HR.out.2.2.1.put 0 _).putFar (p := ⟨X + 1, 0, none⟩) (by show X ≠ X + 1; omega) _) rfl
    have hyz : Box W2 (X + 1) 4 #[.bool false] := by rw [hW2]; exact box_eq ((HR.out.2.2.2.putFar (p := ⟨X, 0, none⟩) (by show X + 1 ≠ X; omega) _).put 0 _) rfl
    have hbl : Below X w5 W2 := by rw [hW2]; exact ((HR.out.1.mono (show X ≤ X + 3 by omega)).setCell (p := ⟨X, 0, none⟩) (Nat.le_refl _) _).setCell (p := ⟨X + 1, 0, none⟩) (by show X ≤ X + 1; omega) _
    have hK2 : W2.heap[D]? = some (.deferred (some [])) := by rw [hW2]; exact (Below.heap_setCell _ ⟨X + 1, 0, none⟩ _ D hDY).trans ((Below.heap_setCell W ⟨X, 0, none⟩ _ D hDX).trans HR.out.2.1)
    rw [← hW2]
    have hx2 : Box (W2.putObj D (.deferred none)) X 32 #[.int .u64 0] := (World.putObj_heap_other (fun e => hDX e.symm)).trans hxz
    have hy2 : Box (W2.putObj D (.deferred none)) (X + 1) 4 #[.bool false] := (World.putObj_heap_other (fun e => hDY e.symm)).trans hyz
    refine ⟨by simp, .inl ⟨_, _, rfl, run_takeDeferred hK2, ?_⟩⟩
    refine ⟨_, results_cell2 rfl _ _ _ X (X + 1) (.int .u64 0) (.bool false) rfl rfl (hx2.read 0) (hy2.read 0) (run_isAgg_plain Tryd.underlying32 rfl _) (run_isAgg_plain Tryd.underlying4 rfl _), by rw [HN.out]; rfl, (HBL.out.1.trans (hbl.mono (by omega))).trans (belowK_b (w := w) (Nat.le_refl _) W2 D _ _ (by omega) hK2 rfl rfl)⟩
  case stop =>
    rintro D c pre W hD hpre ⟨rfl, pre', x, rfl, h1, h2, hbx, hbb, hB⟩ hK
    have ha := away_pre g pl l 0 pre' x HQ.out.bmem (by have := HQ.out.top; omega) hpre h2 h1
    have HN := Lib.hid ha
    have HR := Lib.hid (And.intro hB (And.intro hK (And.intro hbx hbb)))
    clear ha hbx hbb hB hK h1 h2 hpre
    gi_wp2
    have hDX : D ≠ X := by omega
    have hDY : D ≠ X + 1 := by omega
    have hx2 : Box (W.putObj D (.deferred none)) X 32 #[.int .u64 (max x.a pl - pl : Nat)] := (World.putObj_heap_other (fun e => hDX e.symm)).trans HR.out.2.2.1
    have hy2 : Box (W.putObj D (.deferred none)) (X + 1) 4 #[.bool true] := (World.putObj_heap_other (fun e => hDY e.symm)).trans HR.out.2.2.2
    refine ⟨by simp, .inl ⟨_, _, rfl, run_takeDeferred HR.out.2.1, ?_⟩⟩
    refine ⟨_, results_cell2 rfl _ _ _ X (X + 1) (.int .u64 (max x.a pl - pl : Nat)) (.bool true) rfl rfl (hx2.read 0) (hy2.read 0) (run_isAgg_plain Tryd.underlying32 rfl _) (run_isAgg_plain Tryd.underlying4 rfl _), by rw [HN.out]; rfl, (HBL.out.1.trans (HR.out.1.mono (by omega))).trans (belowK_b (w := w) (Nat.le_refl _) W D _ _ (by omega) HR.out.2.1 rfl rfl)⟩
end Go.Proofs.YtnfnhhphoiebbaaDoor
