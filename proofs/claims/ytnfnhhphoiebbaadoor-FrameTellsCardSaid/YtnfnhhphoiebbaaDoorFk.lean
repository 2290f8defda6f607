/- How many steps ahead of a place are a guest's. -/
import Derived.Test.YtnfnhhphoiebbaaDoorFj
set_option linter.unusedVariables false
set_option linter.unusedSimpArgs false
namespace Go.Proofs.YtnfnhhphoiebbaaDoor
open Go.RowKit Go.Shelf
attribute [local go_sem] Oper.semAt_some
theorem box_ownF {β : Type} (B X : Nat) (t : TypeId) (f : β → Array Value) : OwnFrom B (fun s W => Box W X t (f s)) := fun s W W' row hs hg hr => (hg.block X hs.inHeap (fun e => by
  obtain ⟨_, o, ho, hc⟩ := hr X e.symm
  have hs' : W.heap[X]? = _ := hs
  rw [hs'] at ho
  cases ho
  cases hc)).trans hs
theorem keeps_below {W W' : World} (h : Below W.heap.size W W') : KeepsOthers W W' := ⟨h.size, fun b o hb ho => (h.block b (Array.getElem?_eq_some_iff.1 hb).1).trans hb⟩
/-- What is reckoned of the windows so far. -/
def ahS (g pl n : Nat) (x : It) : Nat := if x.g = g ∧ x.a < pl then n + min x.s (pl - x.a) else n
def ahI (g pl : Nat) (xs : List It) : Nat := xs.foldl (ahS g pl) 0
theorem ahI_snoc (g pl : Nat) (xs : List It) (x : It) : ahI g pl (xs ++ [x]) = ahS g pl (ahI g pl xs) x := by simp [ahI]
theorem ahS_le (g pl n : Nat) (x : It) : ahS g pl n x ≤ n + 1024 := by
  unfold ahS
  have := x.hs
  split <;> omega
theorem ahF_le (g pl : Nat) : ∀ (xs : List It) (n : Nat), xs.foldl (ahS g pl) n ≤ n + 1024 * xs.length
  | [], n => by simp
  | x :: r, n => by
    have h1 := ahF_le g pl r (ahS g pl n x)
    have h2 := ahS_le g pl n x
    simp only [List.foldl_cons, List.length_cons]
    omega
theorem ahI_items (g pl : Nat) : ∀ (l : List Win) (s n : Nat), (∀ w ∈ l, w.1 < 256) → s + tot l ≤ 1024 → (items s l).foldl (ahS g pl) n = aheadF g l s pl n
  | [], s, n, _, _ => rfl
  | w :: r, s, n, hb, ht => by
    have h1 := hb w List.mem_cons_self
    simp only [tot] at ht
    simp only [items, List.foldl_cons, aheadF]
    rw [ahI_items g pl r _ _ (fun v hv => hb v (List.mem_cons_of_mem _ hv)) (by omega)]
    congr 1
    unfold ahS toIt
    simp only
    rw [Nat.mod_eq_of_lt h1, Nat.min_eq_left (by omega : s ≤ 1024), Nat.min_eq_left (by omega : w.2 ≤ 1024)]
theorem Tb.bmem {w : World} {p wb wc bb bo bc : Nat} {l : List Win} (h : Tb w p wb wc bb bo bc l) : ∀ v ∈ l, v.1 < 256 := fun v hv => by
  obtain ⟨k, hk⟩ := List.mem_iff_getElem?.1 hv
  exact (h.bnd k v hk).1
theorem cells_eq {k : IntKind} {a b : Int} (h : a = b) : (#[Value.int k a] : Array Value) = #[Value.int k b] := by rw [h]
set_option maxRecDepth 100000 in
set_option maxHeartbeats 4000000 in
theorem ahead_any {w : World} {p wb wc bb bo bc : Nat} {l : List Win} (hq : Tb w p wb wc bb bo bc l) (g pl : Nat) (hg : g < 256) (hpl : pl ≤ 1024) : Calls Tryd.prog 29 #[.pointer (some ⟨p, 0, none⟩), .int .u8 g, .int .u64 pl] w fun e w' => e = .returned (.int .u64 (ahd l g pl)) ∧ Below w.heap.size w w' := by
  refine (callsIn_wide (n := 9)).1 ?_
  have HQ := Lib.hid hq
  clear hq
  refine callsIn_of_wp_marks Tryd.func29 rfl trivial ?_ rfl
  simp only [Tryd.ntmps29, List.size_toArray, List.length_cons, List.length_nil, Nat.reduceAdd, Nat.reduceSub, Array.replicate_succ, Array.replicate_zero, List.push_toArray, List.append_toArray, List.nil_append, List.cons_append]
  gi_wp2_with (refine ⟨trivial, ?_⟩; gi_at_call 19; refine (callsIn_wide.2 (windows_any p _)).mono ?_; rintro e w' ⟨rfl, rfl⟩)
  obtain ⟨X, hX⟩ : ∃ X, X = w.heap.size + 1 + 1 := ⟨_, rfl⟩
  obtain ⟨w4, hw4⟩ : ∃ w4, w4 = (((w.alloc (.cells #[.int .u8 g] 5)).alloc (.cells #[.int .u64 pl] 32)).alloc (.cells #[.int .u64 0] 32)).alloc (.cells #[.pointer (some ⟨p, 0, none⟩)] 26) := ⟨_, rfl⟩
  have bl : Below w.heap.size w w4 := by rw [hw4]; exact ((((Below.refl _ w).alloc (Nat.le_refl _) _).alloc (by simp) _).alloc (by simp; omega) _).alloc (by simp; omega) _
  have hs4 : w4.heap.size = X + 2 := by rw [hw4, hX]; simp
  have hxg : Box w4 w.heap.size 5 #[.int .u8 g] := by rw [hw4]; exact ((((Box.made w 5 _).more _).more _).more _)
  have hxp : Box w4 (w.heap.size + 1) 32 #[.int .u64 pl] := by
    have := Box.made (w.alloc (.cells #[.int .u8 g] 5)) 32 #[.int .u64 pl]
    rw [World.size_alloc] at this
    rw [hw4]; exact (this.more _).more _
  have hxx : Box w4 X 32 #[.int .u64 0] := by
    have := Box.made ((w.alloc (.cells #[.int .u8 g] 5)).alloc (.cells #[.int .u64 pl] 32)) 32 #[.int .u64 0]
    rw [World.size_alloc, World.size_alloc] at this
    rw [hw4, hX]; exact this.more _
  have hxn : Box w4 (X + 1) 26 #[.pointer (some ⟨p, 0, none⟩)] := by
    have := Box.made (((w.alloc (.cells #[.int .u8 g] 5)).alloc (.cells #[.int .u64 pl] 32)).alloc (.cells #[.int .u64 0] 32)) 26 #[.pointer (some ⟨p, 0, none⟩)]
    rw [World.size_alloc, World.size_alloc, World.size_alloc] at this
    rw [hw4, hX]; exact this
  have hq4 : Tb w4 p wb wc bb bo bc l := HQ.out.over bl (Nat.le_refl _)
  have hpX : p < w.heap.size := HQ.out.box.inHeap
  have hwX : wb < w.heap.size := by obtain ⟨_, b, _⟩ := HQ.out.wbx; exact b.inHeap
  have hbX : bb < w.heap.size := by obtain ⟨_, b, _⟩ := HQ.out.bbx; exact b.inHeap
  have hn32 := HQ.out.n32
  rw [← hw4, ← hX]
  have HBL := Lib.hid (And.intro bl (And.intro hX hs4))
  have hwX2 : w.heap.size + 1 < X := by omega
  clear hw4 bl hX
  refine wpIn_rangeFunc_ownH rfl (by omega) (gf := 30) (lb := #[.pointer (some ⟨X + 1, 0, none⟩)]) rfl trivial (enters_of Tryd.func30 (by kernel_rfl) rfl)
    (iter_win (n := 8) (by omega) X (X + 1) (by omega) (by omega) (by omega) (by omega) (by omega) (by omega) hq4 hxn) KX.t (KX.b (n := w4.heap.size)) (Below.refl _ _) (fun _ => rfl)
    (fun pre W => Box W X 32 #[.int .u64 (ahI g pl pre : Nat)] ∧ Below X w4 W)
    (fun _ _ _ => False)
    (OwnFrom.and (box_ownF _ X 32 (fun pre : List It => #[.int .u64 (ahI g pl pre : Nat)])) (ownFrom_below (by omega) (by omega)))
    (fun _ _ _ _ _ hs _ _ => hs)
    ⟨hxx, Below.refl _ _⟩
    (fun x a' W => ∃ q, a' = { tmps := #[.pointer (some ⟨p, 0, none⟩), .int .u8 g, .int .u64 pl, undef, .pointer (some ⟨w.heap.size, 0, none⟩), .pointer (some ⟨w.heap.size + 1, 0, none⟩), .int .u64 0, .pointer (some ⟨X, 0, none⟩), .int .u64 x.a, .pointer (some ⟨q, 0, none⟩), .pointer (some ⟨p, 0, none⟩), .func (.func 30) #[] #[.pointer (some ⟨X + 1, 0, none⟩)], .int .u64 x.a, .agg #[.int .u8 x.g, .int .u16 x.s], undef, undef, undef, undef, undef, undef, undef, undef, undef, undef, undef, undef, undef, undef, undef, undef, undef, undef, undef], defers := [] } ∧ X < q ∧ Box W q 51 #[.int .u8 x.g, .int .u16 x.s])
    (fun x a' s W W' row ⟨q, e, hq, hb⟩ hg hr => ⟨q, e, hq, box_ownF w4.heap.size q 51 (fun _ : Unit => #[.int .u8 x.g, .int .u16 x.s]) s W W' row hb hg hr⟩)
    ?assign ?body ?done ?stop
  case assign =>
    rintro lv pre x W K ⟨hbx, hB⟩ hK
    have HK := Lib.hid hK
    have HX := Lib.hid hbx
    have HB := Lib.hid hB
    clear hK hbx hB
    gi_wp2
    refine HK.out _ _ ((KeepsOthers.alloc _ _).from _) (KX.below ((Below.refl _ W).alloc (Nat.le_refl _) _)) ⟨HX.out.more _, HB.out.alloc (Nat.le_of_lt HX.out.inHeap) _⟩ ⟨W.heap.size, rfl, HX.out.inHeap, Box.made W 51 _⟩
  case body =>
    rintro lv pre x a' W _ _ ⟨hbx, hB⟩ ⟨q, rfl, hqX, hbq⟩ hpl2
    have d0 : W.cell? ⟨q, 0, none⟩ = some (.int .u8 x.g) := hbq.read 0
    have d1 : W.cell? ⟨q, 1, none⟩ = some (.int .u16 x.s) := hbq.read 1
    have d2 : W.cell? ⟨w.heap.size, 0, none⟩ = some (.int .u8 g) := (hB.cell (p := ⟨w.heap.size, 0, none⟩) (by show w.heap.size < X; omega)).trans (hxg.read 0)
    have d3 : W.cell? ⟨w.heap.size + 1, 0, none⟩ = some (.int .u64 pl) := (hB.cell (p := ⟨w.heap.size + 1, 0, none⟩) hwX2).trans (hxp.read 0)
    have d4 : W.cell? ⟨X, 0, none⟩ = some (.int .u64 (ahI g pl pre : Nat)) := hbx.read 0
    have d5 := hbx.warm 0
    have hle : ahI g pl pre ≤ 1024 * 32 := by
      have h1 := ahF_le g pl pre 0
      unfold ahI
      omega
    have hsn := ahI_snoc g pl pre x
    have HS := Lib.hid (And.intro hsn (And.intro hbx (And.intro hB hxx)))
    have hxa := x.ha
    have hxs := x.hs
    have hxg8 := x.hg
    clear hsn hbx hB hbq hpl2 hxn hq4
    generalize ahI g pl pre = m at d4 hle HS
    obtain ⟨xa, xg, xs, _, _, _⟩ := x
    dsimp only at d0 d1 hxa hxs hxg8 ⊢
    have k1 : (0 : Int) ≤ (xa : Int) := Int.natCast_nonneg _
    have k2 : (0 : Int) ≤ (xs : Int) := Int.natCast_nonneg _
    have k3 : (0 : Int) ≤ (pl : Int) := Int.natCast_nonneg _
    have k4 : (0 : Int) ≤ (m : Int) := Int.natCast_nonneg _
    by_cases hxe : xg = g
    · have e1 : ((xg : Int) == (g : Int)) = true := by simp [hxe]
      by_cases hap : xa < pl
      · have e2 : (xa : Int) < (pl : Int) := by omega
        have HV := Lib.hid (And.intro hxe hap)
        clear hxe hap
        gi_wp2
        · rename_i hmin
          exact ⟨(KeepsOthers.setCell _ _ _).from _, fun k hk cs t fz h => (Below.heap_setCell W ⟨X, 0, none⟩ _ k hk).trans h, box_eq (HS.out.2.1.put 0 _) (by rw [HS.out.1]; unfold ahS; rw [if_pos HV.out]; exact cells_eq (by simp only; omega)), HS.out.2.2.1.setCell (p := ⟨X, 0, none⟩) (Nat.le_refl _) _⟩
        · rename_i hmin
          exact ⟨(KeepsOthers.setCell _ _ _).from _, fun k hk cs t fz h => (Below.heap_setCell W ⟨X, 0, none⟩ _ k hk).trans h, box_eq (HS.out.2.1.put 0 _) (by rw [HS.out.1]; unfold ahS; rw [if_pos HV.out]; exact cells_eq (by simp only; omega)), HS.out.2.2.1.setCell (p := ⟨X, 0, none⟩) (Nat.le_refl _) _⟩
      · have e2 : ¬ (xa : Int) < (pl : Int) := by omega
        have e3 : decide ((xa : Int) < (pl : Int)) = false := decide_eq_false e2
        have HV := Lib.hid (And.intro hxe hap)
        clear hxe hap
        gi_wp2
        exact ⟨KeepsFrom.refl _ _, fun _ _ _ _ _ h => h, box_eq HS.out.2.1 (by rw [HS.out.1]; unfold ahS; rw [if_neg (fun h => HV.out.2 h.2)]), HS.out.2.2.1⟩
    · have e1 : ((xg : Int) == (g : Int)) = false := beq_eq_false_iff_ne.2 (by omega)
      have HV := Lib.hid hxe
      clear hxe
      gi_wp2
      exact ⟨KeepsFrom.refl _ _, fun _ _ _ _ _ h => h, box_eq HS.out.2.1 (by rw [HS.out.1]; unfold ahS; rw [if_neg (fun h => HV.out h.1)]), HS.out.2.2.1⟩
  case done =>
    rintro D ys W hD rfl ⟨hbx, hB⟩ hK
    have ha : ahI g pl (items 0 l) = ahd l g pl := by
      have h1 := ahI_items g pl l 0 0 HQ.out.bmem (by have := HQ.out.top; omega)
      rw [aheadF_eq, Nat.zero_add, Nat.sub_zero] at h1
      exact h1
    have hc : W.cell? ⟨X, 0, none⟩ = some (.int .u64 (ahd l g pl : Nat)) := by rw [← ha]; exact hbx.read 0
    clear ha
    gi_wp2
    refine ⟨by simp, .inl ⟨_, _, rfl, run_takeDeferred hK, ?_⟩⟩
    exact ⟨_, results_tmp rfl _ _ _, rfl, (HBL.out.1.trans (hB.mono (by omega))).trans (belowK_b (w := w) (Nat.le_refl _) W D _ _ (by omega) hK rfl rfl)⟩
  case stop =>
    rintro D c pre W _ _ h _
    exact h.elim
end Go.Proofs.YtnfnhhphoiebbaaDoor
