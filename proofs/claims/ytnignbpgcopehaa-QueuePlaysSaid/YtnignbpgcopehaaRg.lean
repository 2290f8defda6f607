/- QueuePlays: the document's methods again, with where its row stands told; both Copies; the two queues side by side; the law's body. -/
import Derived.Test.YtnignbpgcopehaaRb
set_option linter.unusedVariables false
set_option linter.unusedSimpArgs false
namespace Go.Proofs.Ytnignbpgcopehaa
open Go.RowKit
/-- A slice's row is a block of strings. -/
def RowAt (w : World) (a : Option Addr) : Prop := ∃ b off cs, a = some ⟨b, off, none⟩ ∧ w.heap[b]? = some (.cells cs 9 (0, 0))
theorem rowAt_ne {w : World} {b X : Nat} {cs ds : Array Value} {t : TypeId} (h : w.heap[b]? = some (.cells cs 9 (0, 0))) (k : Box w X t ds) (ht : t ≠ 9) : b ≠ X := fun e => by
  subst e
  have k' : w.heap[b]? = some (.cells ds t (0, 0)) := k
  rw [h] at k'
  cases k'
  exact ht rfl
theorem setCell_far {w : World} {b X i : Nat} (u : Value) (h : b ≠ X) : (w.setCell ⟨X, i, none⟩ u).heap[b]? = w.heap[b]? := Below.heap_setCell w ⟨X, i, none⟩ u b h
section
variable {w w' : World} {B d m cap : Nat} {T : List ByteArray} {a : Option Addr}
theorem rrecv_at {x : ByteArray} (h : Rq w B d m (x :: T) a cap) (hT : T.length ≤ 16) (hB : RowAt w a) : Calls Try.prog 12 #[.pointer (some ⟨B, 0, none⟩)] w fun e w' => e = .returned (.tuple #[.string x, .int .u8 0]) ∧ ∃ a' cap', Rq w' B d m T a' cap' ∧ Only B w w' ∧ RowAt w' a' := by
  obtain ⟨b, off, rfl, hb, hc⟩ := h.strs 0 x rfl
  obtain ⟨b0, off0, cs0, e0, hrow⟩ := hB
  cases e0
  have hne := rowAt_ne hrow h.box (by decide)
  have HW := Lib.hid hrow
  have hcap := h.hc
  rw [List.length_cons] at hcap
  have hbx := h.box
  rw [List.length_cons] at hbx
  have HB := Lib.hid hbx
  have HR := Lib.hid h.strs
  have c0 : w.cell? ⟨B, 0, none⟩ = some (.slice (some ⟨b, off, none⟩) (T.length + 1) cap) := hbx.read 0
  have f0 := hbx.warm 0
  have e0 : w.cell? ⟨b, off, none⟩ = some (.string x) := hc
  clear h hbx hc hrow
  go_enter Try.func12, Try.ntmps12
  go_wp2
  case inl =>
    go_ret2
    obtain rfl : T = [] := List.eq_nil_of_length_eq_zero (by omega)
    exact ⟨rfl, _, ⟨_, ⟨box_eq (HB.out.put 0 _) rfl, fun j x hj => by simp at hj, Nat.le_refl _⟩⟩, (Only.refl B w).put (.inl rfl) _, b, _, cs0, rfl, (setCell_far _ hne).trans HW.out⟩
  case inr =>
    go_ret2
    refine ⟨rfl, _, ⟨_, ⟨box_eq (HB.out.put 0 _) rfl, fun j y hj => ?_, by omega⟩⟩, (Only.refl B w).put (.inl rfl) _, b, _, cs0, rfl, (setCell_far _ hne).trans HW.out⟩
    obtain ⟨b', off', e, hb', hc'⟩ := HR.out (j + 1) y (by simpa using hj)
    cases e
    refine ⟨b, off + 1, rfl, by simpa using hb', ?_⟩
    rw [World.cell?_setCell_other _ _ _ _ (by intro h; simp only [Addr.mk.injEq] at h; omega), Nat.add_assoc, Nat.add_comm 1 j]
    exact hc'
set_option maxHeartbeats 1000000 in
theorem rsend_at {b off : Nat} (h : Rq w B d m T (some ⟨b, off, none⟩) cap) (s : ByteArray) (hs : s.size ≤ m) (hT : T.length < d) (hd : d ≤ 16) (hbne : b ≠ B) : Calls Try.prog 16 #[.pointer (some ⟨B, 0, none⟩), .string s] w fun e w' => e = .returned (.int .u8 0) ∧ ∃ a' cap', Rq w' B d m (T ++ [s]) a' cap' ∧ Only B w w' ∧ RowAt w' a' := by
  obtain ⟨i0, hi, iz0, iz1, iz2⟩ := info_parts info9
  have c0 : w.cell? ⟨B, 0, none⟩ = some (.slice (some ⟨b, off, none⟩) T.length cap) := h.box.read 0
  have c1 : w.cell? ⟨B, 1, none⟩ = some (.int .i64 d) := h.box.read 1
  have c2 : w.cell? ⟨B, 2, none⟩ = some (.int .i64 m) := h.box.read 2
  have HQ := Lib.hid h
  have hnil := World.ownsRow_nil w w.heap.size 9 1
  clear h
  go_enter Try.func16, Try.ntmps16
  go_wp2
  go_quiet (fail)
  go_wp2_with (at_builtin; go_loud (refine wpList_append_own _ rfl _ _ 44 rfl w.heap.size 9 i0 (.string ⟨#[]⟩) 1 16 Try.underlying44 hi iz0 iz1 iz2 rfl (by decide) (.slice none 0 0) 0 [] rfl (World.ownsRow_nil _ _ _ _) ⟨b, off, none⟩ T.length cap (strs T) rfl ?c1 ?c2 ?c3 ?c4 ?c5 ?c6 ?_))
  case c1 => simp [strs]
  case c2 =>
    intro j u hj
    unfold strs at hj
    rw [List.getElem?_map, Option.map_eq_some_iff] at hj
    obtain ⟨x, hx, rfl⟩ := hj
    obtain ⟨b', off', e, hb', hc'⟩ := HQ.out.strs j x hx
    cases e
    rcases j with _ | j <;> simpa [Addr.add] using hc'
  case c3 =>
    intro u hu
    obtain ⟨x, _, rfl⟩ := List.mem_map.1 hu
    rfl
  case c4 => unfold maxLen; omega
  case c5 => omega
  case c6 => simp
  intro v3 w3 hown3 hg3 _
  have bel3 : Below w.heap.size w w3 := (below_drewN (Below.refl _ w) _).grown hg3 (by simp) (fun k hk => by simp [Value.ownBlock] at hk)
  have HB3 := Lib.hid bel3
  have hb3 := HQ.out.box.over bel3 HQ.out.box.inHeap
  have d0 : w3.cell? ⟨B, 0, none⟩ = some (.slice (some ⟨b, off, none⟩) T.length cap) := hb3.read 0
  have f0 := hb3.warm 0
  have HX3 := Lib.hid hb3
  have hs3 := bel3.size
  obtain ⟨a3, cap3, rfl, _⟩ := own_shape hown3
  clear hg3 bel3 hb3 c0 c1 c2
  go_wp2_with (at_builtin; go_loud (refine wpList_append_own _ rfl _ _ 44 rfl w.heap.size 9 i0 (.string ⟨#[]⟩) 1 16 Try.underlying44 hi iz0 iz1 iz2 rfl (by decide) _ _ _ rfl (hown3.alloc _) ⟨w3.heap.size, 0, none⟩ 1 1 [.string s] rfl rfl ?d1 ?d2 ?d3 ?d4 ?d5 ?_))
  case d1 =>
    intro j u hj
    match j, hj with
    | 0, hj => simp at hj; subst hj; simp [Addr.add]
  case d2 => intro u hu; simp at hu; subst hu; rfl
  case d3 => unfold maxLen; omega
  case d4 => omega
  case d5 => simp; omega
  intro v4 w4 hown4 hg4 _
  have bel4 : Below w.heap.size w w4 := (HB3.out.alloc HB3.out.size _).grown hg4 (by simp; omega) (fun k hk => by have := own_ge hown3 k hk; omega)
  have hb4 := HQ.out.box.over bel4 HQ.out.box.inHeap
  have f0 := hb4.warm 0
  have d4 : w4.cell? ⟨B, 0, none⟩ = some (.slice (some ⟨b, off, none⟩) T.length cap) := hb4.read 0
  have HX4 := Lib.hid hb4
  have HB4 := Lib.hid bel4
  have HO := Lib.hid hown4
  have hBw := HQ.out.box.inHeap
  obtain ⟨g, cap4, rfl, hgb, hcap, hgh, cur4, hcur⟩ : ∃ g cap4, v4 = .slice (some ⟨g, 0, none⟩) (T.length + 1) cap4 ∧ w.heap.size ≤ g ∧ T.length + 1 ≤ cap4 ∧ g < w4.heap.size ∧ ∃ cur, w4.heap[g]? = some (.cells cur 9 (0, 0)) := by
    rcases hown4.2 with ⟨_, h0⟩ | ⟨g, cap, cur, e, h1, h2, h3, _⟩
    · omega
    · exact ⟨g, cap, e, h1, h3, (Array.getElem?_eq_some_iff.1 h2).1, cur, h2⟩
  have HC := Lib.hid hcur
  clear hcur
  clear hg4 bel4 hb4 hown4 hown3 d0
  go_wp2
  go_ret
  have hl : (T ++ [s]).length = T.length + 1 := by simp
  have HOn : Only B w w4 := ⟨HB4.out.os, HB4.out.tape, HB4.out.output, HB4.out.size, fun k hk _ => HB4.out.block k hk⟩
  refine ⟨rfl, _, _, ⟨box_eq (HX4.out.put 0 _) (by rw [hl]; rfl), fun j y hj => ?_, by rw [hl]; exact hcap⟩, HOn.put (.inl rfl) _, g, 0, cur4, rfl, (setCell_far _ (by omega)).trans HC.out⟩
  have hjl : j < T.length + 1 := by have := (List.getElem?_eq_some_iff.1 hj).1; omega
  refine ⟨g, 0, rfl, by simpa using hgh, ?_⟩
  rw [World.cell?_setCell_other _ _ _ _ (by intro h; simp only [Addr.mk.injEq] at h; omega), Nat.zero_add, World.ownsRow.cellAt HO.out j (by omega)]
  have e : strs T ++ [.string s] = strs (T ++ [s]) := by simp [strs]
  rw [e]
  unfold strs
  rw [List.getElem?_map, hj]
  rfl
set_option maxHeartbeats 1000000 in
theorem rsend_new (h : Rq w B d m [] none 0) (s : ByteArray) (hs : s.size ≤ m) (h1 : 1 ≤ d) (hd : d ≤ 16) : Calls Try.prog 16 #[.pointer (some ⟨B, 0, none⟩), .string s] w fun e w' => e = .returned (.int .u8 0) ∧ ∃ a' cap', Rq w' B d m [s] a' cap' ∧ Only B w w' ∧ RowAt w' a' := by
  obtain ⟨i0, hi, iz0, iz1, iz2⟩ := info_parts info9
  have c0 : w.cell? ⟨B, 0, none⟩ = some (.slice none 0 0) := h.box.read 0
  have c1 : w.cell? ⟨B, 1, none⟩ = some (.int .i64 d) := h.box.read 1
  have c2 : w.cell? ⟨B, 2, none⟩ = some (.int .i64 m) := h.box.read 2
  have HQ := Lib.hid h
  have hnil := World.ownsRow_nil w w.heap.size 9 1
  clear h
  go_enter Try.func16, Try.ntmps16
  go_wp2
  go_quiet (fail)
  go_wp2_with (at_builtin; first | go_loud (refine wpList_append_own_none rfl _ _ 44 rfl w.heap.size 9 i0 1 Try.underlying44 hi (.slice none 0 0) 0 [] rfl (World.ownsRow_nil _ _ _ _) rfl ?_) | go_loud (refine wpList_append_own _ rfl _ _ 44 rfl w.heap.size 9 i0 (.string ⟨#[]⟩) 1 16 Try.underlying44 hi iz0 iz1 iz2 rfl (by decide) (.slice none 0 0) 0 [] rfl (World.ownsRow_nil _ _ _ _) ⟨w.heap.size, 0, none⟩ 1 1 [.string s] rfl rfl ?d1 ?d2 ?d3 ?d4 ?d5 ?_))
  case d1 =>
    intro j u hj
    match j, hj with
    | 0, hj =>
      simp at hj
      subst hj
      have hbm := Box.read (Box.made (w.drewN nq) 9 #[.string s]) 0
      simpa [Addr.add] using hbm
  case d2 => intro u hu; simp at hu; subst hu; rfl
  case d3 => unfold maxLen; omega
  case d4 => omega
  case d5 => simp; try omega
  intro v4 w4 hown4 hg4 _
  have bel4 : Below w.heap.size w w4 := ((below_drewN (Below.refl _ w) _).alloc (by simp) _).grown hg4 (by simp) (fun k hk => by simp [Value.ownBlock] at hk)
  have hb4 := HQ.out.box.over bel4 HQ.out.box.inHeap
  have f0 := hb4.warm 0
  have d4 : w4.cell? ⟨B, 0, none⟩ = some (.slice none 0 0) := hb4.read 0
  have HX4 := Lib.hid hb4
  have HB4 := Lib.hid bel4
  have HO := Lib.hid hown4
  have hBw := HQ.out.box.inHeap
  obtain ⟨g, cap4, rfl, hgb, hcap, hgh, cur4, hcur⟩ : ∃ g cap4, v4 = .slice (some ⟨g, 0, none⟩) 1 cap4 ∧ w.heap.size ≤ g ∧ 1 ≤ cap4 ∧ g < w4.heap.size ∧ ∃ cur, w4.heap[g]? = some (.cells cur 9 (0, 0)) := by
    rcases hown4.2 with ⟨_, h0⟩ | ⟨g, cap, cur, e, h1, h2, h3, _⟩
    · omega
    · exact ⟨g, cap, e, h1, h3, (Array.getElem?_eq_some_iff.1 h2).1, cur, h2⟩
  have HC := Lib.hid hcur
  clear hcur
  clear hg4 bel4 hb4 hown4 c0 c1 c2
  go_wp2
  go_ret
  have HOn : Only B w w4 := ⟨HB4.out.os, HB4.out.tape, HB4.out.output, HB4.out.size, fun k hk _ => HB4.out.block k hk⟩
  refine ⟨rfl, _, _, ⟨box_eq (HX4.out.put 0 _) rfl, fun j y hj => ?_, hcap⟩, HOn.put (.inl rfl) _, g, 0, cur4, rfl, (setCell_far _ (by omega)).trans HC.out⟩
  have hjl : j < 1 := (List.getElem?_eq_some_iff.1 hj).1
  obtain rfl : j = 0 := by omega
  refine ⟨g, 0, rfl, by simpa using hgh, ?_⟩
  rw [World.cell?_setCell_other _ _ _ _ (by intro h; simp only [Addr.mk.injEq] at h; omega), Nat.zero_add, World.ownsRow.cellAt HO.out 0 (by omega)]
  cases hj
  rfl
end
theorem wp_append_none {P : Program} {w : World} {o : Oper} {a : Act} {K : Act → World → Prop} {Q : Exit → Act → World → Prop} (s x : Operand) (t : TypeId)
    (ho : o.op = .call { callee := .builtin .append, args := #[s, x], argTypes := #[t, t] })
    (base : Nat) (e : TypeId) (i : TypeInfo) (size : Nat) (ht : P.underlying t = some (.slice e)) (hi : P.info? e = some i)
    (v : Value) (n : Nat) (xs : List Value) (hs : a.eval s = v) (hown : w.ownsRow base e size v n xs) (hx : a.eval x = .slice none 0 0)
    (h : K (a.put o.dst v) w) : o.wp P a w K Q := by
  have hrun := run_append_owned_none (P := P) (w := w) base t o.type e i size ht hi v n xs hown
  unfold Oper.wp
  simp [execOp, ho, resolve, invoke, builtin, hs, hx, hrun, Result.andThen]
  exact h
theorem wpList_alloc_q {P : Program} {ops : Array Oper} {rest : List Oper} {o : Oper} {a : Act} {w : World} {Q : Exit → Act → World → Prop} (hg : o.guard = none) (t : TypeId) (ho : o.op = .alloc t)
    (cells : Array Value) (hc : ∀ w : World, (Instr.alloc t true (.tuple #[])).run P w = .ok (.pointer (some ⟨w.heap.size, 0, none⟩)) (w.alloc (.cells cells t)))
    (h : wpList P ops Q rest (a.put o.dst (.pointer (some ⟨w.heap.size, 0, none⟩))) (w.alloc (.cells cells t))) : wpList P ops Q (o :: rest) a w :=
  wpList_plain hg fun K hK => by
    unfold Oper.wp execOp
    simp only [ho, Sem.run_bind, Sem.run_pure, Result.andThen_ok, hc w]
    exact hK _ _ h
section
variable {w w' : World} {B d m : Nat} {Ms : List Sm}
set_option maxHeartbeats 1000000 in
theorem ql_copy (h : Ql w B d m Ms) : Calls Try.prog 13 #[.pointer (some ⟨B, 0, none⟩)] w fun e w' => e = .returned (.pointer (some ⟨w.heap.size, 0, none⟩)) ∧ Ql w' w.heap.size d m Ms ∧ Below w.heap.size w w' ∧ w.heap.size < w'.heap.size := by
  obtain ⟨G, f, hq, e⟩ := h
  have HM := Lib.hid (made_any hq)
  have HQ := Lib.hid hq
  have HE := Lib.hid e
  clear hq e
  obtain ⟨w2, hw2⟩ : ∃ w2, w2 = (w.alloc (.cells (qc 0 0 noF 0 0) 54)).setRow w.heap.size (qc d m (un G) f Ms.length) := ⟨_, rfl⟩
  have hb2 : Box w2 w.heap.size 54 (qc d m (un G) f Ms.length) := by rw [hw2]; exact (Box.made w 54 (qc 0 0 noF 0 0)).row _
  have bl2 : Below w.heap.size w w2 := by rw [hw2]; exact ⟨rfl, rfl, rfl, by simp, fun k hk => (setRow_other _ _ k _ (by omega)).trans (Below.heap_alloc w _ k hk)⟩
  have hs2 : w.heap.size < w2.heap.size := hb2.inHeap
  have HP := Lib.hid (And.intro hb2 (And.intro bl2 hs2))
  go_enter Try.func13, Try.ntmps13
  go_wp2_with (first
    | (go_at_call 25; refine HM.out.mono ?_; rintro e w' ⟨rfl, rfl⟩)
    | (refine wpList_load_row rfl 54 _ rfl B rfl 54 (qc d m (un G) f Ms.length) (0, 0) _ HQ.out.box Try.underlying54 rfl (size_q d m (un G) f Ms.length) ?_)
    | (refine wpList_alloc_q rfl 54 rfl (qc 0 0 noF 0 0) alloc_q ?_)
    | (refine wpList_store_row rfl 54 _ _ rfl w.heap.size (qc d m (un G) f Ms.length) rfl rfl 54 (qc 0 0 noF 0 0) (Box.made w 54 _) (size_q d m (un G) f Ms.length) rfl (one_q d m (un G) f Ms.length) ?_))
  rw [← hw2]
  go_ret
  exact ⟨rfl, ⟨G, f, ⟨HP.out.1, HQ.out.hf, HQ.out.hn, HQ.out.h1, HQ.out.hd, HQ.out.hm⟩, HE.out⟩, HP.out.2.1, HP.out.2.2⟩
end
theorem wp_append_row {w : World} {o : Oper} {a : Act} {K : Act → World → Prop} {Q : Exit → Act → World → Prop} (s x : Operand)
    (ho : o.op = .call { callee := .builtin .append, args := #[s, x], argTypes := #[44, 44] })
    (hs : a.eval s = .slice none 0 0) (ad : Option Addr) (T : List ByteArray) (cap : Nat) (hx : a.eval x = .slice ad T.length cap) (hst : Strs w ad T) (hc : (ad = none ∧ T = [] ∧ cap = 0) ∨ RowAt w ad) (hT : T.length ≤ 16)
    (h : ∀ a' cap' w', Strs w' a' T → T.length ≤ cap' → ((a' = none ∧ T = [] ∧ cap' = 0) ∨ RowAt w' a') → Below w.heap.size w w' → K (a.put o.dst (.slice a' T.length cap')) w') : o.wp Try.prog a w K Q := by
  obtain ⟨i0, hi, iz0, iz1, iz2⟩ := info_parts info9
  rcases hc with ⟨rfl, rfl, rfl⟩ | hr
  · exact wp_append_none s x 44 ho w.heap.size 9 i0 1 Try.underlying44 hi (.slice none 0 0) 0 [] hs (World.ownsRow_nil _ _ _ _) hx (h none 0 w hst (Nat.le_refl _) (.inl ⟨rfl, rfl, rfl⟩) (Below.refl _ _))
  · obtain ⟨b, off, cs, rfl, hb⟩ := hr
    refine wp_append_own _ s x 44 ho w.heap.size 9 i0 (.string ⟨#[]⟩) 1 16 Try.underlying44 hi iz0 iz1 iz2 rfl (by decide) _ 0 [] hs (World.ownsRow_nil _ _ _ _) ⟨b, off, none⟩ T.length cap (strs T) hx (by simp [strs]) ?c2 ?c3 ?c4 ?c5 (Nat.le_refl _) ?_
    case c2 =>
      intro j u hj
      unfold strs at hj
      rw [List.getElem?_map, Option.map_eq_some_iff] at hj
      obtain ⟨y, hy, rfl⟩ := hj
      obtain ⟨b', off', e, hb', hc'⟩ := hst j y hy
      cases e
      rcases j with _ | j <;> simpa [Addr.add] using hc'
    case c3 =>
      intro u hu
      obtain ⟨y, _, rfl⟩ := List.mem_map.1 hu
      rfl
    case c4 => unfold maxLen; omega
    case c5 => omega
    intro v' w' hown hg _
    rw [Nat.zero_add, List.nil_append] at hown
    have hbel : Below w.heap.size w w' := (Below.refl _ _).grown hg (Nat.le_refl _) (fun k hk => by simp [Value.ownBlock] at hk)
    obtain ⟨a', cap', rfl, hcap, hn0, _⟩ := own_shape1 hown
    refine h a' cap' w' (strs_own hown rfl) hcap ?_ hbel
    rcases hown.2 with ⟨e, h0⟩ | ⟨g, cp, cur, e, h1, h2, _⟩
    · left
      have hT0 := List.eq_nil_of_length_eq_zero h0
      simp only [Value.slice.injEq] at e
      exact ⟨e.1, hT0, e.2.2⟩
    · right
      simp only [Value.slice.injEq] at e
      exact ⟨g, 0, cur, e.1, h2⟩
section
variable {w w' : World} {C d m cap : Nat} {T : List ByteArray} {a : Option Addr}
set_option maxHeartbeats 2000000 in
theorem rcopy_any (h : Rq w C d m T a cap) (hT : T.length ≤ 16) (ha : (a = none ∧ T = [] ∧ cap = 0) ∨ RowAt w a) : Calls Try.prog 14 #[.pointer (some ⟨C, 0, none⟩)] w fun e w' => e = .returned (.pointer (some ⟨w.heap.size, 0, none⟩)) ∧ (∃ a' cap', Rq w' w.heap.size d m T a' cap' ∧ ((a' = none ∧ T = [] ∧ cap' = 0) ∨ RowAt w' a')) ∧ Below w.heap.size w w' ∧ w.heap.size < w'.heap.size := by
  obtain ⟨i0, hi, iz0, iz1, iz2⟩ := info_parts info9
  have c0 : w.cell? ⟨C, 0, none⟩ = some (.slice a T.length cap) := h.box.read 0
  have c1 : w.cell? ⟨C, 1, none⟩ = some (.int .i64 d) := h.box.read 1
  have c2 : w.cell? ⟨C, 2, none⟩ = some (.int .i64 m) := h.box.read 2
  have HQ := Lib.hid h
  have HA := Lib.hid ha
  have hCl := h.box.inHeap
  clear h ha
  go_enter Try.func14, Try.ntmps14
  go_wp2
  refine wp_region_calm (fun w' => w'.cell? ⟨C, 1, none⟩ = some (.int .i64 d) ∧ w'.cell? ⟨C, 2, none⟩ = some (.int .i64 m))
    (.e 0 :: .e 0 :: .e 0 :: .e 0 :: .e 0 :: .e 0 :: .e 0 :: .e 0 :: .e 0 :: .l 0 :: .e 0 :: []) (by kernel_rfl) (by kernel_rfl) (by kernel_rfl) (by kernel_rfl) ?_
  have hHeld : (w.drew.cell? ⟨C, 1, none⟩ = some (.int .i64 d) ∧ w.drew.cell? ⟨C, 2, none⟩ = some (.int .i64 m)) := ⟨c1, c2⟩
  repeat (refine mv_take0 (v := ?_) (by rfl) hHeld ?_ ?_; rotate_left 1; (focus (intro w hSw; (try dsimp only at hSw); obtain ⟨g0, g1⟩ := hSw; go_simp; (try with_reducible rfl); done)); (try simp only [Act.put, List.setIfInBounds_toArray, List.set_cons_zero, List.set_cons_succ]))
  refine mv_loud0 (by rfl) (fun K2 hK => ?_)
  go_simp
  have hx2 : Box (w.alloc (.cells #[.slice none 0 0, .int .i64 d, .int .i64 m] 56)).drew w.heap.size 56 #[.slice none 0 0, .int .i64 d, .int .i64 m] := (Box.made w 56 _).drawn1
  have bl2 : Below w.heap.size w (w.alloc (.cells #[.slice none 0 0, .int .i64 d, .int .i64 m] 56)).drew := ((Below.refl _ w).alloc (Nat.le_refl _) _).drew
  have hq2 := HQ.out.over bl2
  have ha2 : (a = none ∧ T = [] ∧ cap = 0) ∨ RowAt (w.alloc (.cells #[.slice none 0 0, .int .i64 d, .int .i64 m] 56)).drew a := HA.out.imp id (fun h => by
    obtain ⟨b, off, cs, e, hr⟩ := h
    exact ⟨b, off, cs, e, (bl2.block b (Array.getElem?_eq_some_iff.1 hr).1).trans hr⟩)
  have hs2 : (w.alloc (.cells #[.slice none 0 0, .int .i64 d, .int .i64 m] 56)).drew.heap.size = w.heap.size + 1 := by simp
  have H2 := Lib.hid (And.intro hx2 (And.intro bl2 (And.intro hq2 (And.intro ha2 hs2))))
  clear hx2 bl2 hq2 ha2 hs2
  generalize (w.alloc (.cells #[.slice none 0 0, .int .i64 d, .int .i64 m] 56)).drew = w2 at H2 ⊢
  refine hK.out _ _ ⟨H2.out.2.2.1.box.read 1, H2.out.2.2.1.box.read 2⟩ ?_
  clear hK K2 hHeld
  (try simp only [Act.put, List.setIfInBounds_toArray, List.set_cons_zero, List.set_cons_succ])
  have hHeld : (w2.cell? ⟨C, 1, none⟩ = some (.int .i64 d) ∧ w2.cell? ⟨C, 2, none⟩ = some (.int .i64 m)) := ⟨H2.out.2.2.1.box.read 1, H2.out.2.2.1.box.read 2⟩
  repeat (refine mv_take0 (v := ?_) (by rfl) hHeld ?_ ?_; rotate_left 1; (focus (intro w hSw; (try dsimp only at hSw); obtain ⟨g0, g1⟩ := hSw; go_simp; (try with_reducible rfl); done)); (try simp only [Act.put, List.setIfInBounds_toArray, List.set_cons_zero, List.set_cons_succ]))
  refine mv_calm ?_
  clear hHeld c0 c1 c2
  have c0 : w2.cell? ⟨C, 0, none⟩ = some (.slice a T.length cap) := H2.out.2.2.1.box.read 0
  have n0 : w2.cell? ⟨w.heap.size, 0, none⟩ = some (.slice none 0 0) := H2.out.1.read 0
  go_wp2
  refine wp_region_moves_then 12 (fun w' => w'.cell? ⟨w.heap.size, 0, none⟩ = some (.slice none 0 0) ∧ w'.cell? ⟨C, 0, none⟩ = some (.slice a T.length cap))
    (.e 0 :: .e 0 :: .e 0 :: .e 0 :: .e 0 :: .e 0 :: .e 0 :: .e 0 :: .e 0 :: .l 0 :: .e 0 :: .e 0 :: []) (by kernel_rfl) (by kernel_rfl) (by kernel_rfl) (by kernel_rfl) (by kernel_rfl) (by kernel_rfl) ?_
  simp only [List.take_succ_cons, List.take_zero, List.drop_succ_cons, List.drop_zero]
  have hHeld : (w2.drew.cell? ⟨w.heap.size, 0, none⟩ = some (.slice none 0 0) ∧ w2.drew.cell? ⟨C, 0, none⟩ = some (.slice a T.length cap)) := ⟨n0, c0⟩
  repeat (refine mv_take0 (v := ?_) (by rfl) hHeld ?_ ?_; rotate_left 1; (focus (intro w hSw; (try dsimp only at hSw); obtain ⟨g0, g1⟩ := hSw; go_simp; (try with_reducible rfl); done)); (try simp only [Act.put, List.setIfInBounds_toArray, List.set_cons_zero, List.set_cons_succ]))
  refine mv_loud0 (by rfl) (fun K2 hK => ?_)
  have hm := hK
  refine wp_append_row _ _ rfl rfl a T cap rfl (fun j x hj => H2.out.2.2.1.strs j x hj) (H2.out.2.2.2.1) hT ?_
  intro a3 cap3 w3 hst3 hcap3 hc3 hb3
  have hs2 := H2.out.2.2.2.2
  have hx3 : Box w3 w.heap.size 56 #[.slice none 0 0, .int .i64 d, .int .i64 m] := H2.out.1.drawn1.over hb3 (by have := H2.out.1.inHeap; exact this)
  have hq3 : Rq w3 C d m T a cap := (H2.out.2.2.1.over (Below.refl _ _).drew).over hb3
  have hbel3 : Below w.heap.size w w3 := H2.out.2.1.drew.trans (hb3.mono (by have := hs2; show w.heap.size ≤ w2.heap.size; omega))
  have hHeld := And.intro (hx3.read 0) (hq3.box.read 0)
  refine hK.out _ _ hHeld ?_
  clear hm hK K2
  (try simp only [Act.put, List.setIfInBounds_toArray, List.set_cons_zero, List.set_cons_succ])
  repeat (refine mv_take0 (v := ?_) (by rfl) hHeld ?_ ?_; rotate_left 1; (focus (intro w hSw; (try dsimp only at hSw); obtain ⟨g0, g1⟩ := hSw; go_simp; (try with_reducible rfl); done)); (try simp only [Act.put, List.setIfInBounds_toArray, List.set_cons_zero, List.set_cons_succ]))
  refine mv_then ?_
  have e0 := hx3.read 0
  have g0 := hx3.warm 0
  have H3 := Lib.hid (And.intro hx3 (And.intro hst3 (And.intro hcap3 (And.intro hc3 hbel3))))
  clear hHeld hx3 hq3 hst3 hcap3 hc3 hb3 hbel3 n0 c0
  go_wp2
  refine NoPanic.normal ?_
  clear e0 g0
  have hrow : (a3 = none ∧ T = [] ∧ cap3 = 0) ∨ RowAt (w3.setCell ⟨w.heap.size, 0, none⟩ (.slice a3 T.length cap3)) a3 := H3.out.2.2.2.1.imp id (fun h => by
    obtain ⟨b, off, cs, e, hr⟩ := h
    exact ⟨b, off, cs, e, (setCell_far _ (rowAt_ne hr H3.out.1 (by decide))).trans hr⟩)
  have hfin : Rq (w3.setCell ⟨w.heap.size, 0, none⟩ (.slice a3 T.length cap3)) w.heap.size d m T a3 cap3 := ⟨box_eq (H3.out.1.put 0 _) rfl, fun j x hj => by
    obtain ⟨b, off, e, hb, hc⟩ := H3.out.2.1 j x hj
    have hne : b ≠ w.heap.size := by
      rcases H3.out.2.2.2.1 with ⟨h1, _⟩ | ⟨b', off', cs, e', hr⟩
      · rw [h1] at e; cases e
      · rw [e'] at e
        cases e
        exact rowAt_ne hr H3.out.1 (by decide)
    exact ⟨b, off, e, by simpa [World.setCell] using hb, (World.cell?_setCell_other _ _ _ _ (by intro h; simp only [Addr.mk.injEq] at h; exact hne h.1.symm)).trans hc⟩, H3.out.2.2.1⟩
  have hbelf : Below w.heap.size w (w3.setCell ⟨w.heap.size, 0, none⟩ (.slice a3 T.length cap3)) := H3.out.2.2.2.2.setCell (p := ⟨w.heap.size, 0, none⟩) (Nat.le_refl _) _
  have HF := Lib.hid (And.intro hrow (And.intro hfin hbelf))
  clear hrow hfin hbelf
  generalize w3.setCell ⟨w.heap.size, 0, none⟩ (.slice a3 T.length cap3) = w4 at HF ⊢
  go_wp2
  go_ret
  exact ⟨rfl, ⟨a3, cap3, HF.out.2.1, HF.out.1⟩, HF.out.2.2, HF.out.2.1.box.inHeap⟩
end
def Rk (w : World) (C d m : Nat) (Ms : List Sm) : Prop := ∃ a cap, Rq w C d m (Ms.map (·.1)) a cap ∧ ((a = none ∧ Ms = [] ∧ cap = 0) ∨ RowAt w a)
section
variable {w w' : World} {B C X d m : Nat} {Ms : List Sm} {ds : Array Value} {t : TypeId}
theorem Rk.inHeap (h : Rk w C d m Ms) : C < w.heap.size := by obtain ⟨a, cap, h, _⟩ := h; exact h.box.inHeap
theorem rowAt_over {a : Option Addr} (h : RowAt w a) (k : Below w.heap.size w w') : RowAt w' a := by
  obtain ⟨b, off, cs, e, hr⟩ := h
  exact ⟨b, off, cs, e, (k.block b (Array.getElem?_eq_some_iff.1 hr).1).trans hr⟩
theorem Rk.over (h : Rk w C d m Ms) (k : Below w.heap.size w w') : Rk w' C d m Ms := by
  obtain ⟨a, cap, h, hc⟩ := h
  exact ⟨a, cap, h.over k, hc.imp id (fun h => rowAt_over h k)⟩
theorem Rk.only (h : Rk w C d m Ms) (k : Only X w w') (hne : C ≠ X) (hx : Box w X t ds) (ht : t ≠ 9) : Rk w' C d m Ms := by
  obtain ⟨a, cap, h, hc⟩ := h
  rcases hc with ⟨rfl, rfl, rfl⟩ | hr
  · exact ⟨none, 0, ⟨h.box.only k hne, fun j x hj => by simp at hj, h.hc⟩, .inl ⟨rfl, rfl, rfl⟩⟩
  · obtain ⟨b, off, cs, rfl, hb⟩ := hr
    have hbx := rowAt_ne hb hx ht
    have hbl := (Array.getElem?_eq_some_iff.1 hb).1
    refine ⟨_, cap, ⟨h.box.only k hne, fun j x hj => ?_, h.hc⟩, .inr ⟨b, off, cs, rfl, (k.block b hbl hbx).trans hb⟩⟩
    obtain ⟨b', off', e, hb', hc'⟩ := h.strs j x hj
    cases e
    exact ⟨b, off, rfl, Nat.lt_of_lt_of_le hb' k.size, (World.cell?_of_block (w := w) (w' := w') (a := ⟨b, off + j, none⟩) (k.block b hbl hbx)).trans hc'⟩
theorem rk_len (Ms : List Sm) : (Ms.map (·.1)).length = Ms.length := by simp
theorem rk_send (h : Rk w C d m Ms) (hl : Ms.length ≤ d) (h1 : 1 ≤ d) (hd : d ≤ 16) (hm : m ≤ 64) (s : ByteArray) : Calls Try.prog 16 #[.pointer (some ⟨C, 0, none⟩), .string s] w fun e w' => e = .returned (.int .u8 (sendN d m Ms s)) ∧ Rk w' C d m (sendM d m Ms s) ∧ Only C w w' := by
  have h' := h
  obtain ⟨a, cap, hq, hc⟩ := h
  unfold sendN sendM
  by_cases g1 : m < s.size
  · rw [if_pos g1, if_pos g1]
    refine (rsend_long hq s g1).mono ?_
    rintro e w' ⟨rfl, rfl⟩
    exact ⟨rfl, h', Only.refl _ _⟩
  · rw [if_neg g1, if_neg g1]
    by_cases g2 : Ms.length = d
    · rw [if_pos g2, if_pos g2]
      refine (rsend_full hq s (by omega) (by rw [rk_len]; omega)).mono ?_
      rintro e w' ⟨rfl, k, rfl⟩
      exact ⟨rfl, h'.over (below_drewN (Below.refl _ _) k), (Only.refl _ _).drawn k⟩
    · rw [if_neg g2, if_neg g2]
      have hmap : (Ms ++ [mkS s]).map (·.1) = Ms.map (·.1) ++ [s] := by rw [List.map_append, List.map_cons, List.map_nil, mkS_val (by omega)]
      rcases hc with ⟨rfl, rfl, rfl⟩ | hr
      · refine (rsend_new hq s (by omega) h1 hd).mono ?_
        rintro e w' ⟨rfl, a', cap', hq', ho, hr'⟩
        exact ⟨rfl, ⟨a', cap', by rw [hmap]; exact hq', .inr hr'⟩, ho⟩
      · obtain ⟨b, off, cs, rfl, hb⟩ := hr
        refine (rsend_at hq s (by omega) (by rw [rk_len]; omega) hd (rowAt_ne hb hq.box (by decide))).mono ?_
        rintro e w' ⟨rfl, a', cap', hq', ho, hr'⟩
        exact ⟨rfl, ⟨a', cap', by rw [hmap]; exact hq', .inr hr'⟩, ho⟩
theorem rk_recv (h : Rk w C d m Ms) (hl : Ms.length ≤ 16) : Calls Try.prog 12 #[.pointer (some ⟨C, 0, none⟩)] w fun e w' => e = .returned (.tuple #[.string (recvS Ms), .int .u8 (recvN Ms)]) ∧ Rk w' C d m Ms.tail ∧ Only C w w' := by
  have h' := h
  obtain ⟨a, cap, hq, hc⟩ := h
  rcases Ms with _ | ⟨x, Ms⟩
  · refine (rrecv_none hq).mono ?_
    rintro e w' ⟨rfl, rfl⟩
    exact ⟨rfl, h', Only.refl _ _⟩
  · rcases hc with ⟨_, h, _⟩ | hr
    · cases h
    · refine (rrecv_at hq (by rw [rk_len]; simp at hl; omega) hr).mono ?_
      rintro e w' ⟨rfl, a', cap', hq', ho, hr'⟩
      exact ⟨rfl, ⟨a', cap', hq', .inr hr'⟩, ho⟩
theorem rk_copy (h : Rk w C d m Ms) (hl : Ms.length ≤ 16) : Calls Try.prog 14 #[.pointer (some ⟨C, 0, none⟩)] w fun e w' => e = .returned (.pointer (some ⟨w.heap.size, 0, none⟩)) ∧ Rk w' w.heap.size d m Ms ∧ Below w.heap.size w w' ∧ w.heap.size < w'.heap.size := by
  obtain ⟨a, cap, hq, hc⟩ := h
  refine (rcopy_any hq (by rw [rk_len]; exact hl) (hc.imp (fun h => ⟨h.1, by rw [h.2.1]; rfl, h.2.2⟩) id)).mono ?_
  rintro e w' ⟨rfl, ⟨a', cap', hq', hc'⟩, hb, hs⟩
  refine ⟨rfl, ⟨a', cap', hq', hc'.imp (fun h => ⟨h.1, ?_, h.2.2⟩) id⟩, hb, hs⟩
  exact List.map_eq_nil_iff.1 h.2.1
end
/-- The two queues; behind them what the law has made. -/
structure Dq (w wr : World) (B C d m : Nat) (Mq Mr : List Sm) : Prop where
  q : Ql wr B d m Mq
  r : Rk wr C d m Mr
  ne : B ≠ C
  bel : Below w.heap.size w wr
  hB : w.heap.size ≤ B
  hC : w.heap.size ≤ C
theorem Ql.boxed {w : World} {B d m : Nat} {Ms : List Sm} (h : Ql w B d m Ms) : ∃ ds, Box w B 54 ds := by obtain ⟨G, f, h, e⟩ := h; exact ⟨_, h.box⟩
theorem Rk.boxed {w : World} {B d m : Nat} {Ms : List Sm} (h : Rk w B d m Ms) : ∃ ds, Box w B 56 ds := by obtain ⟨a, cap, h, e⟩ := h; exact ⟨_, h.box⟩
section
variable {w wr w' : World} {B C O d m : Nat} {Mq Mr Ms No : List Sm}
theorem Dq.over (h : Dq w wr B C d m Mq Mr) (k : Below wr.heap.size wr w') : Dq w w' B C d m Mq Mr :=
  ⟨h.q.over k, h.r.over k, h.ne, h.bel.trans (k.mono h.bel.size), h.hB, h.hC⟩
theorem Dq.more (h : Dq w wr B C d m Mq Mr) (o : Obj) : Dq w (wr.alloc o) B C d m Mq Mr := h.over ((Below.refl _ _).alloc (Nat.le_refl _) o)
theorem Dq.onlyB (h : Dq w wr B C d m Mq Mr) {Ns : List Sm} (hq : Ql w' B d m Ns) (ho : Only B wr w') : Dq w w' B C d m Ns Mr := by
  obtain ⟨ds, hb⟩ := h.q.boxed
  exact ⟨hq, h.r.only ho (fun e => h.ne e.symm) hb (by decide), h.ne, h.bel.trans (ho.below h.hB h.bel.size), h.hB, h.hC⟩
theorem Dq.onlyC (h : Dq w wr B C d m Mq Mr) {Ns : List Sm} (hr : Rk w' C d m Ns) (ho : Only C wr w') : Dq w w' B C d m Mq Ns :=
  ⟨h.q.only ho h.ne, hr, h.ne, h.bel.trans (ho.below h.hC h.bel.size), h.hB, h.hC⟩
theorem Dq.onlyO (h : Dq w wr B C d m Mq Mr) (hO : Ql wr O d m No) (ho : Only O wr w') (h1 : O ≠ B) (h2 : O ≠ C) (h3 : w.heap.size ≤ O) : Dq w w' B C d m Mq Mr := by
  obtain ⟨ds, hb⟩ := hO.boxed
  exact ⟨h.q.only ho (fun e => h1 e.symm), h.r.only ho (fun e => h2 e.symm) hb (by decide), h.ne, h.bel.trans (ho.below h3 h.bel.size), h.hB, h.hC⟩
theorem Dq.sendB (h : Dq w wr B C d m Mq Mr) (s : ByteArray) : Calls Try.prog 15 #[.pointer (some ⟨B, 0, none⟩), .string s] wr fun e w' => e = .returned (.int .u8 (sendN d m Mq s)) ∧ Dq w w' B C d m (sendM d m Mq s) Mr ∧ Only B wr w' := by
  refine (ql_send h.q s).mono ?_
  rintro e w' ⟨rfl, hq, ho⟩
  exact ⟨rfl, h.onlyB hq ho, ho⟩
theorem Dq.recvB (h : Dq w wr B C d m Mq Mr) : Calls Try.prog 11 #[.pointer (some ⟨B, 0, none⟩)] wr fun e w' => e = .returned (.tuple #[.string (recvS Mq), .int .u8 (recvN Mq)]) ∧ Dq w w' B C d m Mq.tail Mr := by
  refine (ql_recv h.q).mono ?_
  rintro e w' ⟨rfl, hq, ho⟩
  exact ⟨rfl, h.onlyB hq ho⟩
theorem Dq.sendC (h : Dq w wr B C d m Mq Mr) (h1 : 1 ≤ d) (hl : Mr.length ≤ d) (s : ByteArray) : Calls Try.prog 16 #[.pointer (some ⟨C, 0, none⟩), .string s] wr fun e w' => e = .returned (.int .u8 (sendN d m Mr s)) ∧ Dq w w' B C d m Mq (sendM d m Mr s) := by
  have hql := h.q.len
  refine (rk_send h.r hl h1 hql.2.1 hql.2.2 s).mono ?_
  rintro e w' ⟨rfl, hr, ho⟩
  exact ⟨rfl, h.onlyC hr ho⟩
theorem Dq.recvC (h : Dq w wr B C d m Mq Mr) (hl : Mr.length ≤ 16) : Calls Try.prog 12 #[.pointer (some ⟨C, 0, none⟩)] wr fun e w' => e = .returned (.tuple #[.string (recvS Mr), .int .u8 (recvN Mr)]) ∧ Dq w w' B C d m Mq Mr.tail := by
  refine (rk_recv h.r hl).mono ?_
  rintro e w' ⟨rfl, hr, ho⟩
  exact ⟨rfl, h.onlyC hr ho⟩
/-- Behind both copies: the old queue beside the two. -/
structure Oq (w wr : World) (O B C d m : Nat) (No Mq Mr : List Sm) : Prop where
  q : Dq w wr B C d m Mq Mr
  o : Ql wr O d m No
  n1 : O ≠ B
  n2 : O ≠ C
  hO : w.heap.size ≤ O
theorem Oq.over (h : Oq w wr O B C d m No Mq Mr) (k : Below wr.heap.size wr w') : Oq w w' O B C d m No Mq Mr := ⟨h.q.over k, h.o.over k, h.n1, h.n2, h.hO⟩
theorem Dq.copyB (h : Dq w wr B C d m Mq Mr) : Calls Try.prog 13 #[.pointer (some ⟨B, 0, none⟩)] wr fun e w' => ∃ B', e = .returned (.pointer (some ⟨B', 0, none⟩)) ∧ Oq w w' B B' C d m Mq Mq Mr ∧ Below wr.heap.size wr w' := by
  refine (ql_copy h.q).mono ?_
  rintro e w' ⟨rfl, hq, hb, hs⟩
  have h1 := h.q.inHeap
  have h2 := h.r.inHeap
  have h3 := h.bel.size
  exact ⟨_, rfl, ⟨⟨hq, h.r.over hb, by omega, h.bel.trans (hb.mono h3), by omega, h.hC⟩, h.q.over hb, by omega, h.ne, h.hB⟩, hb⟩
theorem Oq.copyC (h : Oq w wr O B C d m No Mq Mr) (hl : Mr.length ≤ 16) : Calls Try.prog 14 #[.pointer (some ⟨C, 0, none⟩)] wr fun e w' => ∃ C', e = .returned (.pointer (some ⟨C', 0, none⟩)) ∧ Oq w w' O B C' d m No Mq Mr ∧ Below wr.heap.size wr w' := by
  refine (rk_copy h.q.r hl).mono ?_
  rintro e w' ⟨rfl, hr, hb, hs⟩
  have h1 := h.q.q.inHeap
  have h2 := h.o.inHeap
  have h3 := h.q.bel.size
  exact ⟨_, rfl, ⟨⟨h.q.q.over hb, hr, by omega, h.q.bel.trans (hb.mono h3), h.q.hB, by omega⟩, h.o.over hb, h.n1, by omega, h.hO⟩, hb⟩
theorem Oq.send (h : Oq w wr O B C d m No Mq Mr) (s : ByteArray) : Calls Try.prog 15 #[.pointer (some ⟨O, 0, none⟩), .string s] wr fun e w' => e = .returned (.int .u8 (sendN d m No s)) ∧ Oq w w' O B C d m (sendM d m No s) Mq Mr := by
  refine (ql_send h.o s).mono ?_
  rintro e w' ⟨rfl, hq, ho⟩
  exact ⟨rfl, h.q.onlyO h.o ho h.n1 h.n2 h.hO, hq, h.n1, h.n2, h.hO⟩
theorem Oq.recv (h : Oq w wr O B C d m No Mq Mr) : Calls Try.prog 11 #[.pointer (some ⟨O, 0, none⟩)] wr fun e w' => e = .returned (.tuple #[.string (recvS No), .int .u8 (recvN No)]) ∧ Oq w w' O B C d m No.tail Mq Mr := by
  refine (ql_recv h.o).mono ?_
  rintro e w' ⟨rfl, hq, ho⟩
  exact ⟨rfl, h.q.onlyO h.o ho h.n1 h.n2 h.hO, hq, h.n1, h.n2, h.hO⟩
theorem Dq.alike (h : Dq w wr B C d m Ms Ms) : Calls Try.prog 17 #[.pointer (some ⟨B, 0, none⟩), .pointer (some ⟨C, 0, none⟩)] wr fun e w' => e = .returned (.bool true) ∧ Dq w w' B C d m Ms Ms := by
  obtain ⟨a, cap, hr, hc⟩ := h.r
  refine (alike_any h.q hr).mono ?_
  rintro e w' ⟨rfl, hb⟩
  exact ⟨rfl, h.over hb⟩
theorem sendM_len {s : ByteArray} (h : Ms.length ≤ d) : (sendM d m Ms s).length ≤ d := by
  unfold sendM
  split
  · exact h
  · split
    · exact h
    · rw [List.length_append, List.length_singleton]; omega
end
set_option maxRecDepth 200000 in
theorem plays_bad (d m : Nat) (a : Option Addr) (len cap : Nat) (l : List Deed) (h : ¬ (1 ≤ d ∧ d ≤ 16 ∧ 1 ≤ m ∧ m ≤ 64)) (w : World) (hf : IsDeeds w a len l) : Calls Try.prog 3 #[.int .u8 d, .int .u8 m, .slice a len cap] w (Yes w) := by
  have hF := few_any a len cap l w hf
  generalize hB : fewB len l = bb at hF
  have HF := Lib.hid hF
  have HN := Lib.hid (fun wx => new_bad d m h wx)
  have HR := Lib.hid (fun wx => rnew_bad d m h wx)
  clear hF hB h
  cases bb
  all_goals
    go_enter Try.func3, Try.ntmps3
    go_wp2_with (first
      | (go_at_call 7; refine (HN.out w).mono ?_; rintro e w' ⟨rfl, rfl⟩)
      | (go_at_call 8; refine (HR.out _).mono ?_; rintro e w' ⟨rfl, rfl⟩)
      | (go_at_call 9; refine HF.out.mono ?_; rintro e w' ⟨rfl, rfl⟩)
      | (go_at_call 10; refine (awake_any _).mono ?_; rintro e w' ⟨rfl, bel⟩))
    go_ret
    exact ⟨rfl, bel⟩
set_option maxHeartbeats 6400000 in
set_option maxRecDepth 200000 in
theorem plays_ok (d m : Nat) (a : Option Addr) (len cap : Nat) (l : List Deed) (g1 : 1 ≤ d) (g2 : d ≤ 16) (g3 : 1 ≤ m) (g4 : m ≤ 64) (w : World) (hf : IsDeeds w a len l) : Calls Try.prog 3 #[.int .u8 d, .int .u8 m, .slice a len cap] w (Yes w) := by
  have LA := Lib.hid (fun wx (h : Below w.heap.size w wx) => deeds_later2 hf h)
  have hlen := hf.1
  clear hf
  have hF := fun wx bel => few_any a len cap l wx (LA.out wx bel)
  generalize hB : fewB len l = bb at hF
  have HF := Lib.hid hF
  have HB := Lib.hid hB
  have HN : Hid (Calls Try.prog 7 #[.int .u8 d, .int .u8 m] w fun e w1 => e = .returned (.tuple #[.pointer (some ⟨w.heap.size, 0, none⟩), .int .i64 0]) ∧ Ql w1 w.heap.size d m [] ∧ Below w.heap.size w w1 ∧ w.heap.size < w1.heap.size) := Lib.hid (by
    refine (new_ok d m g1 g2 g3 g4 w).mono ?_
    rintro e' w1 ⟨rfl, hq, hb, hs⟩
    exact ⟨rfl, ⟨fun _ => ⟨⟨#[]⟩, Nat.zero_le _⟩, 0, hq, rfl⟩, hb, hs⟩)
  have HR := Lib.hid (fun wx => rnew_ok d m g1 g2 g3 g4 wx)
  clear hF hB
  cases bb
  all_goals
    go_enter Try.func3, Try.ntmps3
    go_wp2_with (first
      | (go_at_call 7; refine HN.out.mono ?_; rintro e w1 ⟨rfl, hq, hb, hs⟩; have H1 := Lib.hid (And.intro hq (And.intro hb hs)); clear hq hb hs)
      | (go_at_call 8; refine (HR.out w1).mono ?_; rintro e w2 ⟨rfl, hr, hb, hs⟩; have H2 : Hid (Dq w w2 w.heap.size w1.heap.size d m [] []) := Lib.hid ⟨H1.out.1.over hb, ⟨none, 0, hr, .inl ⟨rfl, rfl, rfl⟩⟩, by have := H1.out.2.2; omega, H1.out.2.1.trans (hb.mono H1.out.2.1.size), Nat.le_refl _, H1.out.2.1.size⟩; clear hr hb hs))
  · go_wp2_with (first
      | (go_at_call 9; refine (HF.out _ H2.out.bel).mono ?_; rintro e w' ⟨rfl, rfl⟩)
      | (go_at_call 10; refine (awake_any _).mono ?_; rintro e w' ⟨rfl, bel⟩))
    go_ret
    exact ⟨rfl, H2.out.bel.trans (bel.mono H2.out.bel.size)⟩
  · go_wp2_with (go_at_call 9; refine (HF.out _ H2.out.bel).mono ?_; rintro e w' ⟨rfl, rfl⟩)
    obtain ⟨h100, _⟩ := few_true hlen HB.out
    have HL := Lib.hid hlen
    have hS := H2.out
    generalize hB0 : w.heap.size = B0 at hS ⊢
    generalize hC0 : w1.heap.size = C0 at hS ⊢
    have HB0 := Lib.hid hB0
    clear H1 H2 hB0 hC0 hlen
    go_loopw [7, 9, 11] (fun q r i wr => ∃ (k B C : Nat) (Ms : List Sm), k ≤ len ∧ q = .pointer (some ⟨B, 0, none⟩) ∧ r = .pointer (some ⟨C, 0, none⟩) ∧ i = .int .i64 k ∧ Dq w wr B C d m Ms Ms) (fun _ _ i _ => len - (intOf i).toNat)
    case atStart => exact ⟨0, B0, C0, [], Nat.zero_le _, rfl, rfl, rfl, hS⟩
    case round =>
      obtain ⟨k, B, C, Ms, hk, rfl, rfl, rfl, hst⟩ := hrel
      clear hS
      have k1 : (0 : Int) ≤ (k : Int) := Int.natCast_nonneg _
      by_cases hlt : k < len
      · obtain ⟨e, hk2⟩ : ∃ e, l[k]? = some e := ⟨_, List.getElem?_eq_getElem (by rw [HL.out]; exact hlt)⟩
        obtain ⟨b, off, rfl, hbb, c0, c1, hn⟩ := (LA.out wr hst.bel).2 k e hk2
        have d0 : wr.cell? ⟨b, off + k * 2, none⟩ = some (.int .u8 e.k) := by rw [Nat.mul_comm]; exact c0
        have d1 : wr.cell? ⟨b, off + k * 2 + 1, none⟩ = some (.string e.s) := by rw [Nat.mul_comm]; exact c1
        have k2 : (k : Int) < (len : Int) := by omega
        rcases e with ⟨what, s⟩
        simp only at d0 d1 hn
        clear c0 c1 hk2 hbb
        have HW := Lib.hid (show B < wr.heap.size from hst.q.inHeap)
        have HS := Lib.hid (hst.more (.cells #[.int .u8 what, .string s] 33))
        have hl := hst.q.len.1
        have hl16 : Ms.length ≤ 16 := by omega
        have HLN := Lib.hid (And.intro hl hl16)
        have e1 : ((recvS Ms).toList == (recvS Ms).toList) = true := by simp
        clear hst hl hl16
        have hx : what % 8 < 8 := Nat.mod_lt _ (by decide)
        have hxi : ((what : Int) % 8) = ((what % 8 : Nat) : Int) := by omega
        generalize what % 8 = r at hx hxi
        rcases Nat.lt_or_ge r 4 with hr4 | hr4
        · have n4 : (((what : Int) % 8) == 4) = false := beq_eq_false_iff_ne.2 (by omega)
          have n5 : (((what : Int) % 8) == 5) = false := beq_eq_false_iff_ne.2 (by omega)
          have n6 : (((what : Int) % 8) == 6) = false := beq_eq_false_iff_ne.2 (by omega)
          have n7 : (((what : Int) % 8) == 7) = false := beq_eq_false_iff_ne.2 (by omega)
          clear hxi hx hr4
          as_aux_lemma =>
            go_wp2_with (first
              | (go_at_call 15; refine (HS.out.sendB s).mono ?_; rintro e w2 ⟨rfl, hz, ho⟩; have HS2 := Lib.hid hz; have a1 : w2.cell? ⟨wr.heap.size, 1, none⟩ = some (.string s) := ((Box.made wr 33 #[.int .u8 what, .string s]).only ho (by have := HW.out; omega)).read 1; clear hz ho)
              | (go_at_call 16; refine (HS2.out.sendC g1 HLN.out.1 s).mono ?_; rintro e w3 ⟨rfl, hz⟩; have HS3 := Lib.hid hz; clear hz)
              | (go_at_call 17; refine HS3.out.alike.mono ?_; rintro e w4 ⟨rfl, hz⟩; have HS4 := Lib.hid hz; clear hz))
            go_roundw
            case rel => exact ⟨k + 1, B, C, _, by omega, rfl, rfl, by go_num, HS4.out⟩
            case measure => simp [intOf]; omega
        · rcases Nat.lt_or_ge r 7 with hr7 | hr7
          · have hcase : ((what : Int) % 8) = 4 ∨ ((what : Int) % 8) = 5 ∨ ((what : Int) % 8) = 6 := by omega
            clear hxi hx hr4 hr7
            rcases hcase with hc | hc | hc
            all_goals
              as_aux_lemma =>
                go_wp2_with (first
                  | (go_at_call 11; refine HS.out.recvB.mono ?_; rintro e w2 ⟨rfl, hz⟩; have HS2 := Lib.hid hz; clear hz)
                  | (go_at_call 12; refine (HS2.out.recvC HLN.out.2).mono ?_; rintro e w3 ⟨rfl, hz⟩; have HS3 := Lib.hid hz; clear hz)
                  | (go_at_call 17; refine HS3.out.alike.mono ?_; rintro e w4 ⟨rfl, hz⟩; have HS4 := Lib.hid hz; clear hz))
                go_roundw
                case rel => exact ⟨k + 1, B, C, _, by omega, rfl, rfl, by go_num, HS4.out⟩
                case measure => simp [intOf]; omega
          · have hc : ((what : Int) % 8) = 7 := by omega
            clear hxi hx hr4 hr7
            as_aux_lemma =>
              go_wp2_with (first
                | (go_at_call 13; refine HS.out.copyB.mono ?_; rintro e w2 ⟨B2, rfl, hz, hb2⟩; have HS2 := Lib.hid hz; have HE2 := Lib.hid ((Box.made wr 33 #[.int .u8 what, .string s]).over hb2 (Box.made wr 33 #[.int .u8 what, .string s]).inHeap); clear hz hb2)
                | (go_at_call 14; refine (HS2.out.copyC HLN.out.2).mono ?_; rintro e w3 ⟨C2, rfl, hz, hb3⟩; have HS3 := Lib.hid hz; have HE3 := Lib.hid (HE2.out.over hb3 HE2.out.inHeap); have a1 : w3.cell? ⟨wr.heap.size, 1, none⟩ = some (.string s) := HE3.out.read 1; clear hz hb3)
                | (go_at_call 15; refine (HS3.out.send s).mono ?_; rintro e w4 ⟨rfl, hz⟩; have HS4 := Lib.hid hz; clear hz)
                | (go_at_call 11; refine HS4.out.recv.mono ?_; rintro e w5 ⟨rfl, hz⟩; have HS5 := Lib.hid hz; clear hz)
                | (go_at_call 17; refine HS5.out.q.alike.mono ?_; rintro e w6 ⟨rfl, hz⟩; have HS6 := Lib.hid hz; clear hz))
              go_roundw
              case rel => exact ⟨k + 1, B2, C2, _, by omega, rfl, rfl, by go_num, HS6.out⟩
              case measure => simp [intOf]; omega
      · have HST := Lib.hid hst
        clear hst
        go_wp2_with (go_at_call 10; refine (awake_any _).mono ?_; rintro e w9 ⟨rfl, bel9⟩)
        go_ret
        exact ⟨rfl, HST.out.bel.trans (bel9.mono HST.out.bel.size)⟩
end Go.Proofs.Ytnignbpgcopehaa
