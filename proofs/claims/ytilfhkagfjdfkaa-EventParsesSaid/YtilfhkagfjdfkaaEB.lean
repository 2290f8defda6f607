/- Rows of structs; a record; what an event's value may be. -/
import Derived.Test.YtilfhkagfjdfkaaEA
import Derived.Test.YtilfhkagfjdfkaaQt
set_option linter.unusedVariables false
set_option linter.unusedSimpArgs false
namespace Go.Proofs.Ytilfhkagfjdfkaa
open Go.RowKit
attribute [local go_sem] Oper.semAt_some
section
variable {w w' : World} {base : Nat} {e e' : TypeId} {size size' : Nat} {v v' : Value} {n n' : Nat} {xs xs' : List Value}
theorem own_only {b : Nat} (h : w.ownsRow base e size v n xs) (k : Only b w w') (hne : v.ownBlock ≠ some b) : w'.ownsRow base e size v n xs :=
  h.kept (row := some b) ⟨k.os, k.tape, k.output, k.size, fun i hi hn => k.block i hi (fun q => hn (by rw [q]))⟩ (.inr hne)
theorem own_below (h : w.ownsRow base e size v n xs) (k : Below w.heap.size w w') : w'.ownsRow base e size v n xs :=
  h.kept (row := none) ⟨k.os, k.tape, k.output, k.size, fun i hi _ => k.block i hi⟩ (by cases v.ownBlock <;> simp)
theorem own_ne {B : Nat} {t : TypeId} {cs : Array Value} (h : w.ownsRow base e size v n xs) (hb : Box w B t cs) (ht : t ≠ e) : v.ownBlock ≠ some B := fun q => by
  obtain ⟨_, h2⟩ := h
  rcases h2 with ⟨rfl, _⟩ | ⟨g, cap, cur, rfl, hg, hh, _⟩
  · cases q
  · have : g = B := by simpa [Value.ownBlock] using q
    subst this
    have h1 : w.heap[g]? = some (.cells cs t (0, 0)) := hb
    rw [hh] at h1
    cases h1
    exact ht rfl
theorem own_own (h : w.ownsRow base e size v n xs) (h' : w.ownsRow base e' size' v' n' xs') (ht : e ≠ e') : v.ownBlock = none ∨ v.ownBlock ≠ v'.ownBlock := by
  obtain ⟨_, h2⟩ := h
  obtain ⟨_, h3⟩ := h'
  rcases h2 with ⟨rfl, _⟩ | ⟨g, cap, cur, rfl, hg, hh, _⟩
  · exact .inl rfl
  · rcases h3 with ⟨rfl, _⟩ | ⟨g', cap', cur', rfl, hg', hh', _⟩
    · exact .inr (by simp [Value.ownBlock])
    · refine .inr (fun q => ?_)
      have : g = g' := by simpa [Value.ownBlock] using q
      subst this
      rw [hh] at hh'
      cases hh'
      exact ht rfl
end
theorem box_ne {w : World} {a b : Nat} {t u : TypeId} {cs ds : Array Value} (h : Box w a t cs) (k : Box w b u ds) (ht : t ≠ u) : a ≠ b := fun e => by
  subst e
  have h1 : w.heap[a]? = some (.cells cs t (0, 0)) := h
  rw [show w.heap[a]? = _ from k] at h1
  cases h1
  exact ht rfl
theorem below_row {B g : Nat} {w0 w : World} (hb : Below B w0 w) (hBg : B ≤ g) (cs : Array Value) : Below B w0 (w.setRow g cs) :=
  ⟨hb.os, hb.tape, hb.output, by simpa using hb.size, fun k hk => (setRow_other w g k cs (by omega)).trans (hb.block k hk)⟩
theorem wpList_store_box {P : Program} {ops : Array Oper} {rest : List Oper} {o : Oper} {a : Act} {w : World} {Q : Exit → Act → World → Prop} (hgd : o.guard = none) (ty : TypeId) (x y : Operand) (ho : o.op = .store ty x y)
    (g : Nat) (cells : Array Value) (hx : a.eval x = .pointer (some ⟨g, 0, none⟩)) (hy : a.eval y = .agg cells) (t : TypeId) (old : Array Value) (hg : Box w g t old) (hi : (P.info? ty).map (·.size) = some cells.size)
    (hold : old.size = cells.size) (h1 : cells.all (·.oneCell') = true) (h : ∀ w', Box w' g t cells → Below g w w' → wpList P ops Q rest (a.put o.dst undef) w') : wpList P ops Q (o :: rest) a w :=
  wpList_store_row hgd ty x y ho g cells hx hy t old hg hi hold h1 (h _ (hg.row cells) (below_row (Below.refl _ _) (Nat.le_refl _) cells))
theorem below_drawn {B : Nat} {a w : World} (h : Below B a w) (n : Nat) : Below B a (w.drewN n) := ⟨h.os, h.tape, h.output, h.size, h.block⟩
theorem mayB_any (e : Ev) (he : e.wf) (w : World) : Calls Try.prog 28 #[.agg (evA e)] w fun r w' => r = .returned (.bool (mayB e)) ∧ Below w.heap.size w w' := by
  obtain ⟨t, g, k, v⟩ := e
  obtain ⟨ht, hg, hk, hv⟩ := he
  simp only at ht hg hk hv
  have HX := Lib.hid (Box.made w 46 #[.int .u32 t, .int .u8 g, .int .u8 k, .int .u32 v])
  have T0 : Hid (Below w.heap.size w (w.alloc (.cells #[.int .u32 t, .int .u8 g, .int .u8 k, .int .u32 v] 46))) := Lib.hid ((Below.refl _ _).alloc (Nat.le_refl _) _)
  have c2 := HX.out.read 2
  have c3 := HX.out.read 3
  simp only [List.getElem?_toArray, List.getElem?_cons_zero, List.getElem?_cons_succ] at c2 c3
  unfold mayB
  simp only
  by_cases h1 : k = 1
  · subst h1
    rw [if_pos rfl]
    go_enter Try.func28, Try.ntmps28
    go_wp2
    go_ret
    exact ⟨by simp; omega, T0.out⟩
  · rw [if_neg h1]
    have e1 : ((k : Int) == 1) = false := beq_eq_false_iff_ne.2 (by omega)
    by_cases h2 : k = 2
    · subst h2
      rw [if_pos rfl]
      by_cases h8 : 8 ≤ v
      · have v8 : (8 : Int) ≤ (v : Int) := by omega
        go_enter Try.func28, Try.ntmps28
        go_wp2
        go_ret
        exact ⟨by simp [h8]; omega, T0.out⟩
      · have v8 : ¬ (8 : Int) ≤ (v : Int) := by omega
        go_enter Try.func28, Try.ntmps28
        go_wp2
        go_ret
        exact ⟨by simp [h8], T0.out⟩
    · rw [if_neg h2]
      have e2 : ((k : Int) == 2) = false := beq_eq_false_iff_ne.2 (by omega)
      by_cases h3 : k = 3
      · subst h3
        rw [if_pos rfl]
        go_enter Try.func28, Try.ntmps28
        go_wp2
        go_ret
        exact ⟨by simp; omega, T0.out⟩
      · rw [if_neg h3]
        have e3 : ((k : Int) == 3) = false := beq_eq_false_iff_ne.2 (by omega)
        clear h1 h2 h3
        go_enter Try.func28, Try.ntmps28
        go_wp2
        go_ret
        exact ⟨rfl, T0.out⟩
theorem only_then {b : Nat} {w w2 w3 : World} (h : Only b w w2) (k : Below w.heap.size w2 w3) : Only b w w3 :=
  ⟨k.os.trans h.os, k.tape.trans h.tape, k.output.trans h.output, Nat.le_trans h.size k.size, fun i hi hn => (k.block i hi).trans (h.block i hi hn)⟩
/-- A take that is not torn. -/
theorem take_ok {w : World} {X S0 p n : Nat} {s : ByteArray} (h : Src w X S0 s p false) (hs : s.size ≤ 4611686018427387904) (v : Int) (hv : wid v = n) (hp : p + n ≤ s.size) : Calls Try.prog 41 #[.pointer (some ⟨X, 0, none⟩), .int .i64 v] w fun e w' => e = .returned (.int .u64 (numL ((s.data.toList.drop p).take n))) ∧ Src w' X S0 s (p + n) false ∧ Only X w w' := by
  have hb : bad s p (wid v) false = false := by unfold bad; rw [hv]; simp; omega
  refine (take_any h hs v).mono ?_
  rintro e w' ⟨he, h2, h3⟩
  have e1 : textS s p (wid v) false = s.extract p (p + n) := by unfold textS; rw [hb, hv]; rfl
  have e2 : textP s p (wid v) false = p + n := by unfold textP; rw [hb, hv]; rfl
  have e3 : (s.extract p (p + n)).data.toList = (s.data.toList.drop p).take n := by
    rw [ByteArray.data_extract, Array.toList_extract]
    simp [List.extract]
  rw [e1, e3] at he
  rw [e2, hb] at h2
  exact ⟨he, h2, h3⟩
set_option maxHeartbeats 2000000 in
theorem record_any {w : World} {X S0 p : Nat} {s : ByteArray} (h : Src w X S0 s p false) (hs : s.size ≤ 4611686018427387904) (hp : p + 10 ≤ s.size) : Calls Try.prog 27 #[.pointer (some ⟨X, 0, none⟩)] w fun e w' => e = .returned (.agg (evA (recEv (s.data.toList.drop p)))) ∧ Src w' X S0 s (p + 10) false ∧ Only X w w' := by
  obtain ⟨w1, hw1⟩ : ∃ w1, w1 = w.alloc (.cells #[.int .u32 0, .int .u8 0, .int .u8 0, .int .u32 0] 46) := ⟨_, rfl⟩
  have hRr : Box w1 w.heap.size 46 #[.int .u32 0, .int .u8 0, .int .u8 0, .int .u32 0] := by rw [hw1]; exact Box.made _ _ _
  have T1 : Below w.heap.size w w1 := by rw [hw1]; exact (Below.refl _ _).alloc (Nat.le_refl _) _
  have S1 : Hid (Src w1 X S0 s p false ∧ Box w1 w.heap.size 46 #[.int .u32 0, .int .u8 0, .int .u8 0, .int .u32 0] ∧ Only X w w1) := Lib.hid ⟨⟨h.box.over T1 h.box.inHeap, h.txt.over T1 h.txt.inHeap, h.ne, h.le⟩, hRr, Only.ofBelow T1⟩
  have hRX : w.heap.size ≠ X := fun e => by have := h.box.inHeap; omega
  have hXR : X < w.heap.size := h.box.inHeap
  have hSR : S0 < w.heap.size := h.txt.inHeap
  obtain ⟨w4, hw4⟩ := recEv_wf (s.data.toList.drop p)
  have HE : Hid (recEv (s.data.toList.drop p) = ⟨numL ((s.data.toList.drop p).take 4), numL ((s.data.toList.drop (p + 4)).take 1), numL ((s.data.toList.drop (p + 5)).take 1), numL ((s.data.toList.drop (p + 6)).take 4)⟩) := Lib.hid (by
    simp only [recEv, List.drop_drop])
  have b1 : numL ((s.data.toList.drop p).take 4) < 4294967296 := numL_tk _ 4
  have b2 : numL ((s.data.toList.drop (p + 4)).take 1) < 256 := numL_tk _ 1
  have b3 : numL ((s.data.toList.drop (p + 5)).take 1) < 256 := numL_tk _ 1
  have b4 : numL ((s.data.toList.drop (p + 6)).take 4) < 4294967296 := numL_tk _ 4
  have k1 := Lib.hid fun (W : World) (hW : Src W X S0 s p false) => take_ok hW hs 4 (n := 4) rfl (by omega)
  have k2 := Lib.hid fun (W : World) (hW : Src W X S0 s (p + 4) false) => take_ok hW hs 1 (n := 1) rfl (by omega)
  have k3 := Lib.hid fun (W : World) (hW : Src W X S0 s (p + 5) false) => take_ok hW hs 1 (n := 1) rfl (by omega)
  have k4 := Lib.hid fun (W : World) (hW : Src W X S0 s (p + 6) false) => take_ok hW hs 4 (n := 4) rfl (by omega)
  rw [HE.out]
  generalize numL ((s.data.toList.drop p).take 4) = x1 at b1 k1
  generalize numL ((s.data.toList.drop (p + 4)).take 1) = x2 at b2 k2
  generalize numL ((s.data.toList.drop (p + 5)).take 1) = x3 at b3 k3
  generalize numL ((s.data.toList.drop (p + 6)).take 4) = x4 at b4 k4
  have v1 : IntKind.u32.wrap (x1 : Int) = (x1 : Int) := by show (x1 : Int) % 4294967296 = _; omega
  have v2 : IntKind.u8.wrap (x2 : Int) = (x2 : Int) := by show (x2 : Int) % 256 = _; omega
  have v3 : IntKind.u8.wrap (x3 : Int) = (x3 : Int) := by show (x3 : Int) % 256 = _; omega
  have v4 : IntKind.u32.wrap (x4 : Int) = (x4 : Int) := by show (x4 : Int) % 4294967296 = _; omega
  clear h HE b1 b2 b3 b4 hp hRr T1 w4 hw4
  go_enter Try.func27, Try.ntmps27
  go_wp2_with fail
  rw [← hw1]
  refine (k1.out _ S1.out.1).mono ?_
  rintro e w2 ⟨rfl, h1, h2⟩
  have S2 := Lib.hid (And.intro h1 (And.intro (S1.out.2.1.only h2 hRX) (S1.out.2.2.trans h2)))
  clear h1 h2 k1 hw1 S1
  go_wp2_with fail
  refine (k2.out _ S2.out.1).mono ?_
  rintro e w3 ⟨rfl, h1, h2⟩
  have S3 := Lib.hid (And.intro h1 (And.intro (S2.out.2.1.only h2 hRX) (S2.out.2.2.trans h2)))
  clear h1 h2 k2 S2
  go_wp2_with fail
  refine (k3.out _ S3.out.1).mono ?_
  rintro e w4 ⟨rfl, h1, h2⟩
  have S4 := Lib.hid (And.intro h1 (And.intro (S3.out.2.1.only h2 hRX) (S3.out.2.2.trans h2)))
  clear h1 h2 k3 S3
  go_wp2_with fail
  refine (k4.out _ S4.out.1).mono ?_
  rintro e w5 ⟨rfl, h1, h2⟩
  have S5 := Lib.hid (And.intro h1 (And.intro (S4.out.2.1.only h2 hRX) (S4.out.2.2.trans h2)))
  clear h1 h2 k4 S4
  go_wp2_with (refine wpList_store_box rfl 46 _ _ rfl w.heap.size #[.int .u32 x1, .int .u8 x2, .int .u8 x3, .int .u32 x4] rfl rfl 46 _ S5.out.2.1 (by kernel_rfl) rfl (by rw [← Array.all_toList]; rfl) ?_; intro w6 hb6 hbl6; have H6 := Lib.hid (And.intro hb6 hbl6); clear hb6 hbl6)
  exact bodyPost_ret (v := .agg #[.int .u32 x1, .int .u8 x2, .int .u8 x3, .int .u32 x4]) (results_cell_row rfl _ _ w.heap.size 46 #[.int .u32 x1, .int .u8 x2, .int .u8 x3, .int .u32 x4] (0, 0) _ rfl H6.out.1 Try.underlying46 rfl (by kernel_rfl)) rfl
    ⟨rfl, ⟨S5.out.1.box.over H6.out.2 hXR, S5.out.1.txt.over H6.out.2 hSR, S5.out.1.ne, S5.out.1.le⟩, only_then S5.out.2.2 H6.out.2⟩
end Go.Proofs.Ytilfhkagfjdfkaa
