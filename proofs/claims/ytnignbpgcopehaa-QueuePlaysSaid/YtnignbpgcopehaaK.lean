/- Dump. -/
import Derived.Test.YtnignbpgcopehaaJ
set_option linter.unusedVariables false
set_option linter.unusedSimpArgs false
namespace Go.Proofs.Ytnignbpgcopehaa
open Go.RowKit Go.Shelf
attribute [local go_sem] Oper.semAt_some
theorem put1 (g z : Nat) (hz : z < 256) (w : World) (h0 : w.cell? ⟨g, 0, none⟩ = some (.int .u64 z)) (h1 : w.cell? ⟨g, 1, none⟩ = some (.int .i64 1)) (hg : g < w.heap.size) : Calls Try.prog 33 #[.slice (some ⟨g, 0, none⟩) 1 1] w fun e w' => e = .returned (.string (str [UInt8.ofNat z])) ∧ Below w.heap.size w w' := by
  refine (put_any g 0 1 1 [⟨z, 1⟩] w rfl (by omega) hg (fun k f hk => ?_)).mono ?_
  · rcases k with _ | k
    · cases hk
      exact ⟨h0, h1, by show z < _; omega⟩
    · cases hk
  · rintro e w' ⟨rfl, hb⟩
    refine ⟨?_, hb⟩
    have : bytesOf [⟨z, 1⟩] = [UInt8.ofNat z] := by
      show (byt (wid 1) z ++ []) = _
      rw [show wid 1 = 1 by decide, List.append_nil]
      show [UInt8.ofNat (z % 256)] = _
      rw [Nat.mod_eq_of_lt hz]
    rw [this]
def addM (a : ByteArray) (s : Sm) : ByteArray := a ++ (str [UInt8.ofNat s.1.size] ++ s.1)
def dumpM (n : Nat) (l : List Sm) : ByteArray := l.foldl addM (str [UInt8.ofNat n])
theorem dumpM_snoc (n : Nat) (l : List Sm) (s : Sm) : dumpM n (l ++ [s]) = dumpM n l ++ (str [UInt8.ofNat s.1.size] ++ s.1) := by simp [dumpM, addM]
theorem size_one (c : UInt8) : (str [c]).size = 1 := rfl
theorem dumpM_size (n : Nat) : ∀ l : List Sm, (dumpM n l).size ≤ 1 + 65 * l.length := fun l => by
  have main : ∀ (l : List Sm) (a : ByteArray), (l.foldl addM a).size ≤ a.size + 65 * l.length := fun l => by
    induction l with
    | nil => intro a; simp
    | cons s l ih =>
      intro a
      have h1 := ih (addM a s)
      have h2 : (addM a s).size ≤ a.size + 65 := by
        have := s.2
        unfold addM
        rw [ByteArray.size_append, ByteArray.size_append, size_one]
        omega
      simp only [List.foldl_cons, List.length_cons]
      omega
  exact main l _
theorem box_own {β : Type} (X : Nat) (t : TypeId) (g : β → Array Value) : Own (fun (s : β) W => Box W X t (g s)) := fun s A B row hs hg hr =>
  (hg.block X hs.inHeap (fun e => by
    obtain ⟨o, ho, hc⟩ := hr X e.symm
    have h : A.heap[X]? = _ := hs
    rw [h] at ho
    cases ho
    cases hc)).trans hs
theorem keeps_below {W W' : World} (h : Below W.heap.size W W') : KeepsOthers W W' := ⟨h.size, fun b o hb ho => (h.block b (Array.getElem?_eq_some_iff.1 hb).1).trans hb⟩
set_option maxRecDepth 100000 in
set_option maxHeartbeats 4000000 in
theorem dump_any {w : World} {B d m f c : Nat} {G : Nat → Sm} (hq : Qu w B d m (un G) f c) : Calls Try.prog 23 #[.pointer (some ⟨B, 0, none⟩)] w fun e w' => e = .returned (.string (dumpM c (msgs G f c))) ∧ Below w.heap.size w w' := by
  refine (callsIn_wide (n := 9)).1 ?_
  have hc16 : c ≤ 16 := by have := hq.hn; have := hq.hd; omega
  have c19 : w.cell? ⟨B, 19, none⟩ = some (.int .i64 c) := hq.box.read 19
  have hcw : IntKind.u64.wrap (c : Int) = (c : Int) := by show (c : Int) % 18446744073709551616 = _; omega
  have HQ := Lib.hid hq
  have HM := Lib.hid (made_any hq)
  clear hq
  refine callsIn_of_wp_marks Try.func23 rfl trivial ?_ rfl
  simp only [Try.ntmps23, List.size_toArray, List.length_cons, List.length_nil, Nat.reduceAdd, Nat.reduceSub, Array.replicate_succ, Array.replicate_zero, List.push_toArray, List.append_toArray, List.nil_append, List.cons_append]
  gi_wp2_with (first
    | (refine ⟨trivial, ?_⟩; gi_at_call 25; refine (callsIn_wide.2 HM.out).mono ?_; rintro e w' ⟨rfl, rfl⟩)
    | (refine ⟨trivial, ?_⟩; gi_at_call 33; refine (callsIn_wide.2 (put1 w.heap.size c (by omega) _ (Box.read (Box.made w 69 #[.int .u64 c, .int .i64 1]) 0) (Box.read (Box.made w 69 #[.int .u64 c, .int .i64 1]) 1) (by simp))).mono ?_; rintro e w1 ⟨rfl, hb1⟩)
    | (refine ⟨trivial, ?_⟩; gi_at_call 28; refine (callsIn_wide.2 (all_any B _)).mono ?_; rintro e w' ⟨rfl, rfl⟩))
  have hB1 : Below w.heap.size w w1 := ((Below.refl _ w).alloc (Nat.le_refl _) _).trans (hb1.mono (by simp))
  have hq1 : Qu w1 B d m (un G) f c := HQ.out.over hB1 HQ.out.box.inHeap
  obtain ⟨X, hX⟩ : ∃ X, X = w1.heap.size := ⟨_, rfl⟩
  obtain ⟨w2, hw2⟩ : ∃ w2, w2 = (w1.alloc (.cells #[.string (str [UInt8.ofNat c])] 9)).alloc (.cells #[.pointer (some ⟨B, 0, none⟩)] 23) := ⟨_, rfl⟩
  have hB2 : Below w.heap.size w w2 := by rw [hw2]; exact (hB1.alloc hB1.size _).alloc (by have := hB1.size; simp; omega) _
  have hs2 : w2.heap.size = X + 2 := by rw [hw2, hX]; simp
  have hq2 : Qu w2 B d m (un G) f c := by rw [hw2]; exact (hq1.more _).more _
  have hx2 : Box w2 X 9 #[.string (str [UInt8.ofNat c])] := by rw [hw2, hX]; exact (Box.made _ _ _).more _
  have hb2 : w2.cell? ⟨X + 1, 0, none⟩ = some (.pointer (some ⟨B, 0, none⟩)) := by
    have := Box.read (Box.made (w1.alloc (.cells #[.string (str [UInt8.ofNat c])] 9)) 23 #[.pointer (some ⟨B, 0, none⟩)]) 0
    rw [World.size_alloc] at this
    rw [hw2, hX]
    exact this
  have hXw : w.heap.size ≤ X := by rw [hX]; exact hB1.size
  rw [← hw2, ← hX]
  clear hw2 hX hq1 hB1 hb1 c19 HM
  refine wpIn_rangeFunc_ownF rfl (by omega) (gf := 34) (lb := #[.pointer (some ⟨X + 1, 0, none⟩)]) rfl trivial (enters_of Try.func34 (by kernel_rfl) rfl)
    (iter_all (n := 8) (by omega) X (X + 1) (by omega) (by omega) hq2 hb2) KX.t (KX.b (n := w2.heap.size)) (Below.refl _ _) (fun _ => rfl)
    (fun pre W => Box W X 9 #[.string (dumpM c pre)] ∧ Below w.heap.size w W)
    (fun _ _ _ => False)
    (OwnFrom.and ((box_own X 9 (fun pre => #[.string (dumpM c pre)])).from _) (ownFrom_below (Nat.le_refl _) (by omega)))
    (fun _ _ _ _ _ hs _ _ => hs)
    ⟨hx2, hB2⟩
    (fun x => { tmps := #[.pointer (some ⟨B, 0, none⟩), undef, .string ⟨#[]⟩, .pointer (some ⟨X, 0, none⟩), .string x.1, .pointer (some ⟨B, 0, none⟩), .bool true, .bool false, .pointer (some ⟨B, 0, none⟩), .pointer (some ⟨B, 0, none⟩), .pointer (some ⟨B, 19, none⟩), .int .i64 c, .int .u64 c, .agg #[.int .u64 c, .int .i64 1], .slice (some ⟨w.heap.size, 0, none⟩) 1 1, .string (str [UInt8.ofNat c]), .pointer (some ⟨B, 0, none⟩), .func (.func 34) #[] #[.pointer (some ⟨X + 1, 0, none⟩)], .string x.1, undef, undef, undef, undef, undef, undef, undef, undef, undef, undef, undef], defers := [] }) ?assign ?body ?done ?stop
  case assign =>
    intro l x W K hK
    gi_wp2
    exact hK
  case body =>
    rintro l pre x W ⟨hbx, hB⟩ hpl
    have hx64 := x.2
    obtain ⟨s, hs⟩ := x
    simp only at hx64 ⊢
    have hsw : IntKind.u64.wrap (s.size : Int) = (s.size : Int) := by show (s.size : Int) % 18446744073709551616 = _; omega
    have hsz := dumpM_size c pre
    have y1 : ¬ 9223372036854775807 < (str [UInt8.ofNat s.size]).size + s.size := by rw [size_one]; omega
    have y2 : ¬ 9223372036854775807 < (dumpM c pre).size + ((str [UInt8.ofNat s.size]).size + s.size) := by rw [size_one]; omega
    have y3 : ¬ 9223372036854775807 < (dumpM c pre).size + (str [UInt8.ofNat s.size] ++ s).size := by rw [ByteArray.size_append, size_one]; omega
    have hd : 1 ≤ 9 - 1 - 1 := by omega
    have hmx : Try.prog.follows .mixedOrders = true := by kernel_rfl
    have hc : W.cell? ⟨X, 0, none⟩ = some (.string (dumpM c pre)) := hbx.read 0
    have hXl := hbx.inHeap
    have HX0 := Lib.hid hbx
    have HB0 := Lib.hid hB
    have hbm := Box.made W 69 #[.int .u64 s.size, .int .i64 1]
    have HP := Lib.hid (put1 W.heap.size s.size (by omega) (W.alloc (.cells #[.int .u64 s.size, .int .i64 1] 69)).drew (Box.read (Box.drawn1 hbm) 0) (Box.read (Box.drawn1 hbm) 1) (Box.inHeap (Box.drawn1 hbm)))
    clear hbx hB hbm
    gi_wp2
    gi_region_with_o (refine ⟨trivial, ?_⟩; gi_at_call 33; refine (CallsIn.inRound l (callsIn_wide.2 HP.out)).mono ?_; rintro e w5 ⟨rfl, hb5⟩; have HW : Hid (Below W.heap.size W w5) := Lib.hid ((((Below.refl _ W).alloc (Nat.le_refl _) (.cells #[.int .u64 s.size, .int .i64 1] 69)).drew).trans (hb5.mono (by simp))); clear hb5; have HX : Hid (Box w5 X 9 #[.string (dumpM c pre)]) := Lib.hid (HX0.out.over HW.out (by exact HX0.out.inHeap)); have d0 : w5.cell? ⟨X, 0, none⟩ = some (.string (dumpM c pre)) := HX.out.read 0; have f0 := HX.out.warm 0)
    all_goals gi_wp2
    all_goals exact ⟨(keeps_below HW.out).trans (KeepsOthers.setCell _ _ _), fun k hk cs t fz h => (Below.heap_setCell w5 ⟨X, 0, none⟩ _ k hk).trans ((HW.out.block k (Array.getElem?_eq_some_iff.1 h).1).trans h), box_eq (HX.out.put 0 _) (by rw [dumpM_snoc]; rfl), (HB0.out.trans (HW.out.mono HB0.out.size)).setCell (p := ⟨X, 0, none⟩) hXw _⟩
  case done =>
    rintro D ys W hD rfl ⟨hbx, hB⟩ hK
    have hc := hbx.read 0
    gi_wp2
    refine ⟨by simp, .inl ⟨_, _, rfl, run_takeDeferred hK, ?_⟩⟩
    exact ⟨_, results_tmp rfl _ _ _, rfl, hB.trans (belowK_b (w := w) (Nat.le_refl _) W D _ _ (by omega) hK rfl rfl)⟩
  case stop =>
    rintro D c pre W _ _ h _
    exact h.elim
end Go.Proofs.Ytnignbpgcopehaa
