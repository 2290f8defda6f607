/- FrameTells: how things stand on the way; the short ways. -/
import Derived.Test.YtnfnhhphoiebbaaDoorGk
set_option linter.unusedVariables false
set_option linter.unusedSimpArgs false
namespace Go.Proofs.YtnfnhhphoiebbaaDoor
open Go.RowKit
theorem results_cell1 {fn : Func} {p : Tmp} {ty : TypeId} (h : fn.results = #[.cell p ty]) (tmps : Array Value) (P : Program) (w : World) (g : Nat) (v : Value) (hp : tmps.getD p undef = .pointer (some ⟨g, 0, none⟩)) (hc : w.cell? ⟨g, 0, none⟩ = some v)
    (ha : (isAgg ty).run P w = .ok false w) :
    (results fn tmps).run P w = .ok v w := by
  have hp' : tmps[p]?.getD undef = .pointer (some ⟨g, 0, none⟩) := by simpa using hp
  simp only [results, h]
  simp [asAddr, loadVar, go_sem, hp', ha, hc, Result.andThen]
/-- Asks that came in. -/
def IsAsks (w : World) (a : Option Addr) (len : Nat) (A : List (Nat × Nat)) : Prop :=
  A.length = len ∧ ∀ k (q : Nat × Nat), A[k]? = some q → ∃ b off, a = some ⟨b, off, none⟩ ∧ b < w.heap.size ∧ w.cell? ⟨b, off + k * 2, none⟩ = some (.int .u8 q.1) ∧ w.cell? ⟨b, off + k * 2 + 1, none⟩ = some (.int .u64 q.2) ∧ q.1 < 256 ∧ q.2 < 18446744073709551616
theorem IsAsks.later {w wx : World} {a : Option Addr} {len : Nat} {A : List (Nat × Nat)} (hf : IsAsks w a len A) (bel : Below w.heap.size w wx) : IsAsks wx a len A := ⟨hf.1, fun k f hk => by
    obtain ⟨b, off, rfl, hbb, c0, c1, hn⟩ := hf.2 k f hk
    exact ⟨b, off, rfl, Nat.lt_of_lt_of_le hbb bel.size, (bel.cell (by exact hbb)).trans c0, (bel.cell (by exact hbb)).trans c1, hn⟩⟩
theorem Nums.over {w w' : World} (h : Nums w) (k : Below w.heap.size w w') : Nums w' := fun n wx hn hb => h n wx hn (k.trans (hb.mono k.size))
theorem nx_val {l : List Win} {g s : Nat} (hp : ∀ w ∈ l, 0 < w.2) (ht : 0 < tot l) : ∃ (x : Int) (y : Bool), ∀ v, NxA l g s v → v = .tuple #[.int .u64 x, .bool y] := by
  have key : ∃ (x : Int) (y : Bool), NxA l g s (.tuple #[.int .u64 x, .bool y]) := by
    by_cases hc : cnt l g = 0
    · exact ⟨0, false, .inl ⟨hc, rfl⟩⟩
    · obtain ⟨dn, hd⟩ := nxt_ex s hp ht hc
      by_cases h : s + dn < 18446744073709551616
      · exact ⟨_, true, .inr ⟨dn, hd, .inl ⟨h, rfl⟩⟩⟩
      · exact ⟨0, false, .inr ⟨dn, hd, .inr ⟨h, rfl⟩⟩⟩
  obtain ⟨x, y, h⟩ := key
  exact ⟨x, y, fun v hv => NxA.one ht hv h⟩
theorem items_at : ∀ (l : List Win) (s k : Nat) (x : It), (items s l)[k]? = some x → ∃ f, l[k]? = some f ∧ x = toIt (s + tot (l.take k)) f
  | [], s, k, x, h => by simp [items] at h
  | w :: r, s, 0, x, h => by
    simp only [items, List.getElem?_cons_zero, Option.some.injEq] at h
    exact ⟨w, rfl, by rw [← h]; simp [tot]⟩
  | w :: r, s, k + 1, x, h => by
    simp only [items, List.getElem?_cons_succ] at h
    obtain ⟨f, h1, h2⟩ := items_at r _ k x h
    exact ⟨f, by simpa using h1, by rw [h2]; simp only [List.take_succ_cons, tot]; congr 1; omega⟩
theorem items_take : ∀ (l : List Win) (s k : Nat), (items s l).take k = items s (l.take k)
  | [], s, k => by simp [items]
  | w :: r, s, 0 => by simp [items]
  | w :: r, s, k + 1 => by simp only [items, List.take_succ_cons, items_take]
def sumS (xs : List It) : Nat := (xs.map (·.s)).sum
theorem sumS_le : ∀ xs : List It, sumS xs ≤ 1024 * xs.length
  | [] => by simp [sumS]
  | x :: r => by
    have h1 := sumS_le r
    have h2 := x.hs
    simp only [sumS, List.map_cons, List.sum_cons, List.length_cons] at h1 ⊢
    omega
theorem sumS_snoc (xs : List It) (x : It) : sumS (xs ++ [x]) = sumS xs + x.s := by simp [sumS]
theorem sumS_items : ∀ (l : List Win) (s : Nat), tot l ≤ 1024 → sumS (items s l) = tot l
  | [], s, h => rfl
  | w :: r, s, h => by
    simp only [tot] at h
    have h1 := sumS_items r (s + w.2) (by omega)
    simp only [sumS, items, List.map_cons, List.sum_cons, tot] at h1 ⊢
    rw [h1]
    simp only [toIt]
    omega
/-- What a loop over the windows meets, if it meets them in order. -/
theorem items_meet {l : List Win} (ht : tot l ≤ 1024) (hb : ∀ (k : Nat) (f : Win), l[k]? = some f → f.1 < 256 ∧ f.2 < 65536) {pre : List It} {x : It} (h : pre ++ [x] <+: items 0 l) : x.a = sumS pre ∧ ∃ f, l[pre.length]? = some f ∧ x.g = f.1 ∧ x.s = f.2 := by
  obtain ⟨t, h⟩ := h
  have h1 : (items 0 l)[pre.length]? = some x := by rw [← h]; simp
  have h2 : (items 0 l).take pre.length = pre := by rw [← h, List.append_assoc, List.take_left']; rfl
  obtain ⟨f, hf, rfl⟩ := items_at l 0 _ x h1
  rw [items_take] at h2
  have h3 := tot_take_le l pre.length
  have h4 := tot_take_le l (pre.length + 1)
  rw [tot_take hf] at h4
  have h5 := sumS_items (l.take pre.length) 0 (by omega)
  rw [h2] at h5
  obtain ⟨b1, b2⟩ := hb _ _ hf
  refine ⟨?_, f, hf, ?_, ?_⟩
  · rw [h5]; simp only [toIt]; omega
  · simp only [toIt]; omega
  · simp only [toIt]; omega
/-- How things stand behind the table and the document's frame. -/
structure Ft (w wr : World) (b0 o0 n cap p wb wc bb bo bc fb fo fc : Nat) (l : List Win) (a1 : Option Addr) (n1 : Nat) (A : List (Nat × Nat)) : Prop where
  r3 : Box wr w.heap.size 22 #[.slice (some ⟨b0, o0, none⟩) n cap]
  r6 : Box wr (w.heap.size + 1) 4 #[.bool false]
  tb : Tb wr p wb wc bb bo bc l
  fm : Fm wr fb fo fc l
  wins : IsWins wr (some ⟨b0, o0, none⟩) n l
  asks : IsAsks wr a1 n1 A
  nums : Nums wr
  bel : Below w.heap.size w wr
section
variable {w wr w' : World} {b0 o0 n cap p wb wc bb bo bc fb fo fc n1 : Nat} {l : List Win} {a1 : Option Addr} {A : List (Nat × Nat)}
theorem Ft.over (h : Ft w wr b0 o0 n cap p wb wc bb bo bc fb fo fc l a1 n1 A) (k : Below wr.heap.size wr w') : Ft w w' b0 o0 n cap p wb wc bb bo bc fb fo fc l a1 n1 A :=
  ⟨h.r3.over k h.r3.inHeap, h.r6.over k h.r6.inHeap, h.tb.over k (Nat.le_refl _), h.fm.below k, h.wins.later k, h.asks.later k, h.nums.over k, h.bel.trans (k.mono h.bel.size)⟩
end
/-- What a call of the law has made, before all. -/
abbrev H2w (w : World) (v : Value) : World := (w.alloc (.cells #[v] 22)).alloc (.cells #[.bool false] 4)
theorem h2_below (w : World) (v : Value) : Below w.heap.size w (H2w w v) := ((Below.refl _ w).alloc (Nat.le_refl _) _).alloc (by simp) _
theorem h2_r3 (w : World) (v : Value) : Box (H2w w v) w.heap.size 22 #[v] := (Box.made w 22 _).more _
theorem h2_r6 (w : World) (v : Value) : Box (H2w w v) (w.heap.size + 1) 4 #[.bool false] := by
  have := Box.made (w.alloc (.cells #[v] 22)) 4 #[.bool false]
  rwa [World.size_alloc] at this
theorem yes_end {w W : World} (h : Box W (w.heap.size + 1) 4 #[.bool true]) (b : Below w.heap.size w W) (tmps : Array Value) (hp : tmps.getD 6 undef = .pointer (some ⟨w.heap.size + 1, 0, none⟩)) : (results Tryd.f3 tmps).run Tryd.prog W = .ok (.bool true) W :=
  results_cell1 rfl _ _ _ (w.heap.size + 1) (.bool true) hp (h.read 0) (run_isAgg_plain Tryd.underlying4 rfl _)
set_option maxRecDepth 200000 in
set_option maxHeartbeats 2000000 in
theorem tells_bad (G : Int) (a a1 : Option Addr) (n cap n1 cap1 : Nat) (l : List Win) (w : World) (hG1 : -9223372036854775808 ≤ G) (hG2 : G ≤ 9223372036854775807) (hf : IsWins w a n l) (hc : 60 < n ∨ 40 < n1 ∨ chk G l ≠ 0) : Calls Tryd.prog 3 #[.slice a n cap, .int .i64 G, .slice a1 n1 cap1] w (Yes w) := by
  have H3 := h2_r3 w (.slice a n cap)
  have c3 : (H2w w (.slice a n cap)).cell? ⟨w.heap.size, 0, none⟩ = some (.slice a n cap) := H3.read 0
  have H6 := Lib.hid (h2_r6 w (.slice a n cap))
  have H0 := Lib.hid (h2_below w (.slice a n cap))
  have HD := Lib.hid (fun (hn : ¬ 60 < n) => dcheck_any G a n cap l (H2w w (.slice a n cap)) hG1 hG2 (by omega) (hf.later H0.out))
  have AW := Lib.hid (awake_any (H2w w (.slice a n cap)))
  clear hf H3
  by_cases h60 : 60 < n
  · clear hc
    go_enter Tryd.func3, Tryd.ntmps3
    go_wp2_with (go_at_call 6; refine AW.out.mono ?_; rintro e w1 ⟨rfl, hb⟩; have H1 := Lib.hid (And.intro (H6.out.over hb H6.out.inHeap) (H0.out.trans (hb.mono H0.out.size))); clear hb; have c6 := H1.out.1.read 0; have f6 := H1.out.1.warm 0)
    exact bodyPost_ret (yes_end (w := w) (box_eq (H1.out.1.put 0 _) rfl) (H1.out.2.setCell (p := ⟨w.heap.size + 1, 0, none⟩) (by show w.heap.size ≤ w.heap.size + 1; omega) _) _ rfl) rfl ⟨rfl, H1.out.2.setCell (p := ⟨w.heap.size + 1, 0, none⟩) (by show w.heap.size ≤ w.heap.size + 1; omega) _⟩
  · by_cases h40 : 40 < n1
    · clear hc
      go_enter Tryd.func3, Tryd.ntmps3
      go_wp2_with (go_at_call 6; refine AW.out.mono ?_; rintro e w1 ⟨rfl, hb⟩; have H1 := Lib.hid (And.intro (H6.out.over hb H6.out.inHeap) (H0.out.trans (hb.mono H0.out.size))); clear hb; have c6 := H1.out.1.read 0; have f6 := H1.out.1.warm 0)
      exact bodyPost_ret (yes_end (w := w) (box_eq (H1.out.1.put 0 _) rfl) (H1.out.2.setCell (p := ⟨w.heap.size + 1, 0, none⟩) (by show w.heap.size ≤ w.heap.size + 1; omega) _) _ rfl) rfl ⟨rfl, H1.out.2.setCell (p := ⟨w.heap.size + 1, 0, none⟩) (by show w.heap.size ≤ w.heap.size + 1; omega) _⟩
    · have hc0 : chk G l ≠ 0 := by omega
      have e0 : ((chk G l : Int) != 0) = true := bne_iff_ne.2 (by omega)
      have HD2 := Lib.hid (HD.out h60)
      clear hc hc0 HD
      generalize chk G l = c at HD2 e0
      go_enter Tryd.func3, Tryd.ntmps3
      go_wp2_with (first
        | (go_at_call 5; refine HD2.out.mono ?_; rintro e w1 ⟨rfl, rfl⟩)
        | (go_at_call 6; refine AW.out.mono ?_; rintro e w1 ⟨rfl, hb⟩; have H1 := Lib.hid (And.intro (H6.out.over hb H6.out.inHeap) (H0.out.trans (hb.mono H0.out.size))); clear hb; have c6 := H1.out.1.read 0; have f6 := H1.out.1.warm 0))
      exact bodyPost_ret (yes_end (w := w) (box_eq (H1.out.1.put 0 _) rfl) (H1.out.2.setCell (p := ⟨w.heap.size + 1, 0, none⟩) (by show w.heap.size ≤ w.heap.size + 1; omega) _) _ rfl) rfl ⟨rfl, H1.out.2.setCell (p := ⟨w.heap.size + 1, 0, none⟩) (by show w.heap.size ≤ w.heap.size + 1; omega) _⟩
end Go.Proofs.YtnfnhhphoiebbaaDoor
