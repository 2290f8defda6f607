/- Lanes: slices of one-cell elements, that begin anywhere in a block of their own; what append and slicing make of them. -/
import Derived.Test.YtgicehhenahfpaaDoorBx
set_option linter.unusedVariables false
set_option linter.unusedSimpArgs false
namespace Go.Proofs.YtgicehhenahfpaaDoor
open Go.RowKit

/-- A slice of one-cell elements: nil, or it begins in a block that nobody froze, with all its room in it. -/
def Lane (w : World) (e : TypeId) (v : Value) (T : List Value) : Prop :=
  (v = .slice none 0 0 ∧ T = []) ∨ ∃ g off cap cur, v = .slice (some ⟨g, off, none⟩) T.length cap ∧ Box w g e cur ∧ T.length ≤ cap ∧ off + cap ≤ cur.size ∧ cap ≤ maxLen ∧ ∀ (j : Nat) (u : Value), T[j]? = some u → cur[off + j]? = some u
namespace Lane
variable {w w' : World} {e : TypeId} {v : Value} {T : List Value} {g off n cap : Nat}
theorem nil (w : World) (e : TypeId) : Lane w e (.slice none 0 0) [] := .inl ⟨rfl, rfl⟩
theorem shape (h : Lane w e v T) : ∃ a cap, v = .slice a T.length cap ∧ (T ≠ [] → ∃ g off, a = some ⟨g, off, none⟩) := by
  rcases h with ⟨rfl, rfl⟩ | ⟨g, off, cap, cur, rfl, _⟩
  · exact ⟨none, 0, rfl, fun h => absurd rfl h⟩
  · exact ⟨_, _, rfl, fun _ => ⟨g, off, rfl⟩⟩
theorem cell (h : Lane w e (.slice (some ⟨g, off, none⟩) n cap) T) (j : Nat) (u : Value) (hj : T[j]? = some u) : w.cell? ⟨g, off + j, none⟩ = some u := by
  rcases h with ⟨h, _⟩ | ⟨g', off', cap', cur, h, hb, _, _, _, hc⟩
  · cases h
  · cases h
    rw [hb.read]; exact hc j u hj
theorem cells (h : Lane w e (.slice (some ⟨g, off, none⟩) n cap) T) (j : Nat) (u : Value) (hj : T[j]? = some u) : w.cell? ((⟨g, off, none⟩ : Addr).add j) = some u := by
  have := h.cell j u hj
  unfold Addr.add
  split
  · simp_all
  · simpa using this
theorem kept (h : Lane w e v T) {row : Option Nat} (hg : w.grownBy w' row) (hne : v.ownBlock = none ∨ v.ownBlock ≠ row) : Lane w' e v T := by
  rcases h with h | ⟨g, off, cap, cur, rfl, hb, h1, h2, h3, h4⟩
  · exact .inl h
  · refine .inr ⟨g, off, cap, cur, rfl, (hg.block g hb.inHeap ?_).trans hb, h1, h2, h3, h4⟩
    rcases hne with h | h
    · cases h
    · exact fun e => h e
theorem drawn (h : Lane w e v T) (n : Nat) : Lane (w.drewN n) e v T := by
  rcases h with h | ⟨g, off, cap, cur, rfl, hb, r⟩
  · exact .inl h
  · exact .inr ⟨g, off, cap, cur, rfl, hb.drawn n, r⟩
theorem drawn1 (h : Lane w e v T) : Lane w.drew e v T := h.drawn 1
theorem more (h : Lane w e v T) (o : Obj) : Lane (w.alloc o) e v T := by
  rcases h with h | ⟨g, off, cap, cur, rfl, hb, r⟩
  · exact .inl h
  · exact .inr ⟨g, off, cap, cur, rfl, hb.more o, r⟩
theorem only (h : Lane w e v T) {b : Nat} (k : Only b w w') {t : TypeId} {cs : Array Value} (hx : Box w b t cs) (ht : t ≠ e) : Lane w' e v T := by
  rcases h with h | ⟨g, off, cap, cur, rfl, hb, r⟩
  · exact .inl h
  · refine .inr ⟨g, off, cap, cur, rfl, hb.only k ?_, r⟩
    rintro rfl
    have h1 : w.heap[g]? = _ := hb
    have h2 : w.heap[g]? = _ := hx
    rw [h1] at h2
    cases h2
    exact ht rfl
theorem touch (h : Lane w e v T) {K : Nat → Prop} (k : Touch K w w') (hv : ∀ b, v.ownBlock = some b → ¬ K b) : Lane w' e v T := by
  rcases h with h | ⟨g, off, cap, cur, rfl, hb, r⟩
  · exact .inl h
  · exact .inr ⟨g, off, cap, cur, rfl, hb.touch k (hv g rfl), r⟩
theorem lt (h : Lane w e v T) : ∀ b, v.ownBlock = some b → b < w.heap.size := by
  rcases h with ⟨rfl, _⟩ | ⟨g, off, cap, cur, rfl, hb, r⟩
  · intro b h; cases h
  · intro b h; cases h; exact hb.inHeap
theorem far (h : Lane w e v T) {b : Nat} {t : TypeId} {cs : Array Value} (hx : Box w b t cs) (ht : t ≠ e) : v.ownBlock ≠ some b := by
  rcases h with ⟨rfl, _⟩ | ⟨g, off, cap, cur, rfl, hb, r⟩
  · intro h; cases h
  · intro h
    cases h
    have h1 : w.heap[g]? = _ := hb
    have h2 : w.heap[g]? = _ := hx
    rw [h1] at h2
    cases h2
    exact ht rfl
theorem putFar (h : Lane w e v T) {p : Addr} {t : TypeId} {cs : Array Value} (hx : Box w p.block t cs) (ht : t ≠ e) (u : Value) : Lane (w.setCell p u) e v T := by
  rcases h with h | ⟨g, off, cap, cur, rfl, hb, r⟩
  · exact .inl h
  · refine .inr ⟨g, off, cap, cur, rfl, hb.putFar ?_ u, r⟩
    rintro rfl
    have h1 : w.heap[p.block]? = _ := hb
    have h2 : w.heap[p.block]? = _ := hx
    rw [h1] at h2
    cases h2
    exact ht rfl
theorem below (h : Lane w e v T) {B : Nat} (k : Below B w w') (hB : w.heap.size ≤ B) : Lane w' e v T := by
  rcases h with h | ⟨g, off, cap, cur, rfl, hb, r⟩
  · exact .inl h
  · exact .inr ⟨g, off, cap, cur, rfl, hb.over k (Nat.lt_of_lt_of_le hb.inHeap hB), r⟩
/-- A row of one's own is a lane. -/
theorem ofOwn {base : Nat} {n : Nat} (h : w.ownsRow base e 1 v n T) : Lane w e v T := by
  obtain ⟨hl, h⟩ := h
  rw [Nat.mul_one] at hl
  rcases h with ⟨rfl, rfl⟩ | ⟨g, cap, cur, rfl, hg, hb, hn, hm, hc, ht⟩
  · exact .inl ⟨rfl, List.eq_nil_of_length_eq_zero hl⟩
  · refine .inr ⟨g, 0, cap, cur, by rw [hl], hb, by omega, by omega, hm, fun j u hj => ?_⟩
    rw [← ht] at hj
    rw [List.getElem?_take] at hj
    split at hj
    · rw [Nat.zero_add, ← Array.getElem?_toList]; exact hj
    · cases hj
end Lane
section
variable {P : Program} {w : World}
/-- What is left of a lane behind its first k. -/
theorem run_slice_lane {t e : TypeId} {i : TypeInfo} (ht : P.underlying t = some (.slice e)) (hi : P.info? e = some i) (hs : i.size = 1) {g off n cap k : Nat} (hk : k ≤ n) (hn : n ≤ cap) (hm : cap ≤ maxLen) :
    (Instr.slice t (.slice (some ⟨g, off, none⟩) n cap) (some (.int .i64 k)) none none).run P w = .ok (.slice (some (if cap = k then (⟨g, off, none⟩ : Addr) else (⟨g, off, none⟩ : Addr).add k)) (n - k) (cap - k)) w := by
  have h1 : (0 : Int) ≤ (k : Int) ∧ (k : Int) ≤ (n : Int) := by omega
  have h2 : (k : Int) ≤ (cap : Int) := by omega
  simp [Instr.slice, Instr.sliceBounds, Instr.sliceBound, run_underlying ht, sizeOf, typeInfo, hi, hs, Result.andThen, h1, h2, hk, go_sem]
  by_cases hc : cap = k <;> simp [hc]
/-- The lane that is left. -/
theorem Lane.drop {e : TypeId} {g off cap : Nat} {T : List Value} (h : Lane w e (.slice (some ⟨g, off, none⟩) T.length cap) T) (k : Nat) (hk : k ≤ T.length) :
    Lane w e (.slice (some (if cap = k then (⟨g, off, none⟩ : Addr) else (⟨g, off, none⟩ : Addr).add k)) (T.length - k) (cap - k)) (T.drop k) := by
  rcases h with ⟨h, _⟩ | ⟨g', off', cap', cur, h, hb, h1, h2, h3, h4⟩
  · cases h
  · cases h
    by_cases hc : cap = k
    · rw [if_pos hc]
      exact .inr ⟨g, off, cap - k, cur, by rw [List.length_drop], hb, by rw [List.length_drop]; omega, by omega, by omega, fun j u hj => by
        have : (T.drop k).length = 0 := by rw [List.length_drop]; omega
        rw [List.eq_nil_of_length_eq_zero this] at hj
        simp at hj⟩
    · rw [if_neg hc]
      refine .inr ⟨g, off + k, cap - k, cur, ?_, hb, by rw [List.length_drop]; omega, by omega, by omega, fun j u hj => ?_⟩
      · rw [List.length_drop]
        unfold Addr.add
        split <;> simp_all
      · rw [List.getElem?_drop] at hj
        rw [Nat.add_assoc]
        exact h4 _ _ hj
theorem run_append_view (t ty e : TypeId) (i : TypeInfo) (ht : P.underlying t = some (.slice e)) (hi : P.info? e = some i) (hs : i.size = 1)
    (g off sLen sCap : Nat) (cur : Array Value) (hg : w.heap[g]? = some (.cells cur e (0, 0)))
    (x : Value) (m : Nat) (news : List Value) (hl : news.length = m) (hx : Lane w e x news) (h1 : ∀ u ∈ news, u.oneCell' = true)
    (hroom : sLen + m ≤ sCap) (hfit : off + sLen + m ≤ cur.size) :
    (Builtin.append_ #[t, t] ty #[.slice (some ⟨g, off, none⟩) sLen sCap, x]).run P w =
      .ok (.slice (some ⟨g, off, none⟩) (sLen + m) sCap) (w.setRow g (cur.toList.take (off + sLen) ++ news ++ cur.toList.drop (off + sLen + news.length)).toArray) := by
  subst hl
  have hst := run_storeCells_at P g (off + sLen) e news 0 cur w hg (by simpa using hfit) h1
  simp only [Nat.add_zero] at hst
  have hadd : (⟨g, off, none⟩ : Addr).add sLen = ⟨g, off + sLen, none⟩ := by
    unfold Addr.add
    split <;> simp_all
  rcases hx with ⟨rfl, rfl⟩ | ⟨g', off', cap', cur', rfl, hb', _, _, _, h4⟩
  · simp [Builtin.append_, run_underlying ht, sizeOf, typeInfo, hi, Builtin.lenOf, hroom, Builtin.firstCells, storeCells, hs, hadd, Addr.add_lit, hst]
    have hle : sLen ≤ sCap := by simpa using hroom
    rw [if_pos hle, setRow_self w g cur e (0, 0) hg]
  · have hf := run_firstCells_some (P := P) (w := w) 1 news.length ⟨g', off', none⟩ news.length cap' news (by omega) (fun j u hj => by
      have := (hb'.read (off' + j)).trans (h4 j u hj)
      unfold Addr.add
      split
      · simp_all
      · simpa using this)
    simp [Builtin.append_, run_underlying ht, sizeOf, typeInfo, hi, Builtin.lenOf, hroom, hs, hf, hadd, Addr.add_lit, hst]
theorem run_append_lane (t ty e : TypeId) (i : TypeInfo) (z : Value) (bytes : Nat) (ht : P.underlying t = some (.slice e)) (hi : P.info? e = some i) (hz : i.zero = some z) (hs : i.size = 1) (hby : i.bytes = bytes) (hzs : z.cells.size = 1)
    (v x : Value) (T N : List Value) (hv : Lane w e v T) (hx : Lane w e x N) (h1 : ∀ u ∈ N, u.oneCell' = true)
    (h63 : T.length + N.length ≤ maxLen) (hbytes : (T.length + N.length) * bytes ≤ 140737488355328) :
    ∃ v' w', (Builtin.append_ #[t, t] ty #[v, x]).run P w = .ok v' w' ∧ Lane w' e v' (T ++ N) ∧ w.grownBy w' v.ownBlock ∧ (∀ k, v'.ownBlock = some k → v.ownBlock = some k ∨ (w.heap.size ≤ k ∧ k < w'.heap.size)) := by
  subst hby
  have hsmall : T.length + N.length ≤ 9223372036854775807 := by simp only [maxLen] at h63; omega
  have same : w.grownBy w v.ownBlock ∧ (∀ k, (Value.slice none 0 0).ownBlock = some k → v.ownBlock = some k ∨ (w.heap.size ≤ k ∧ k < w.heap.size)) := ⟨⟨rfl, rfl, rfl, Nat.le_refl _, fun _ _ _ => rfl⟩, fun k h => by cases h⟩
  have hxc : ∀ {g off n cap : Nat}, x = .slice (some ⟨g, off, none⟩) n cap → ∀ j u, N[j]? = some u → w.cell? ((⟨g, off, none⟩ : Addr).add j) = some u := fun h => (h ▸ hx).cells
  have made : ∀ old, old < T.length + N.length → Lane (w.drew.alloc (.cells (T.toArray ++ N.toArray ++ Builtin.zeroCells z.cells (grownCap w (T.length + N.length) old e - (T.length + N.length))) e)) e (.slice (some ⟨w.heap.size, 0, none⟩) (T.length + N.length) (grownCap w (T.length + N.length) old e)) (T ++ N) ∧
      w.grownBy (w.drew.alloc (.cells (T.toArray ++ N.toArray ++ Builtin.zeroCells z.cells (grownCap w (T.length + N.length) old e - (T.length + N.length))) e)) v.ownBlock := fun old ho => by
    have hge := grownCap_ge w (T.length + N.length) old e
    have hcm := grownCap_le_maxLen w (T.length + N.length) old e h63
    refine ⟨.inr ⟨w.heap.size, 0, _, _, by rw [List.length_append], heap_alloc_new w.drew _, by rw [List.length_append]; exact hge, ?_, hcm, fun j u hj => ?_⟩, ⟨rfl, rfl, rfl, by simp, fun k hk _ => Below.heap_alloc w.drew _ k hk⟩⟩
    · simp only [Array.size_append, List.size_toArray, size_zeroCells, hzs]
      omega
    · rw [Nat.zero_add, ← Array.getElem?_toList, Array.toList_append, Array.toList_append]
      have hlt := (List.getElem?_eq_some_iff.1 hj).1
      rw [List.getElem?_append_left (by simpa using hlt)]
      exact hj
  rcases hv with ⟨rfl, rfl⟩ | ⟨g, off, cap, cur, rfl, hb, ha, hc, hm, hcell⟩
  · rcases hx with ⟨rfl, rfl⟩ | ⟨g', off', cap', cur', rfl, hb', ha', hc', hm', hcell'⟩
    · refine ⟨.slice none 0 0, w, ?_, .inl ⟨rfl, rfl⟩, same⟩
      simp [Builtin.append_, run_underlying ht, sizeOf, typeInfo, hi, Builtin.lenOf, Builtin.firstCells, loadCells, loadCellsFrom]
    · by_cases hm0 : N.length = 0
      · have hN := List.eq_nil_of_length_eq_zero hm0
        subst hN
        refine ⟨.slice none 0 0, w, ?_, .inl ⟨rfl, rfl⟩, same⟩
        simp [Builtin.append_, run_underlying ht, sizeOf, typeInfo, hi, Builtin.lenOf, Builtin.firstCells, loadCells, loadCellsFrom]
      · have hr := run_append_nil (P := P) w t ty e i z ht hi hz ⟨g', off', none⟩ N.length cap' N (by rw [hs]; omega) (hxc rfl) (by omega) (by simp only [List.length_nil, Nat.zero_add] at hsmall; omega) (by simp only [List.length_nil, Nat.zero_add] at hbytes; omega)
        have hg := made 0 (by simp only [List.length_nil]; omega)
        simp only [List.length_nil, Nat.zero_add, List.nil_append, Array.empty_append] at hg ⊢
        exact ⟨_, _, hr, hg.1, hg.2, fun k h => by simp [Value.ownBlock] at h; subst h; right; simp⟩
  · by_cases hroom : T.length + N.length ≤ cap
    · have hr := run_append_view (P := P) (w := w) t ty e i ht hi hs g off T.length cap cur hb x N.length N rfl hx h1 hroom (by omega)
      have hlt : off + T.length ≤ cur.toList.length := by simp; omega
      refine ⟨_, _, hr, .inr ⟨g, off, cap, _, by rw [List.length_append], hb.row _, by rw [List.length_append]; exact hroom, ?_, hm, fun j u hj => ?_⟩, ⟨rfl, rfl, rfl, by simp, fun k _ hk => setRow_other w g k _ (fun e => hk (by simp [Value.ownBlock, e]))⟩, fun k h => .inl h⟩
      · simp only [List.size_toArray, List.length_append, List.length_take, List.length_drop, Array.length_toList]
        omega
      · rw [List.getElem?_toArray]
        by_cases hjT : j < T.length
        · rw [List.getElem?_append_left hjT] at hj
          rw [List.append_assoc, List.getElem?_append_left (by rw [List.length_take]; omega), List.getElem?_take, if_pos (by omega), Array.getElem?_toList]
          exact hcell j u hj
        · rw [List.getElem?_append_right (by omega)] at hj
          have hjN := (List.getElem?_eq_some_iff.1 hj).1
          rw [List.getElem?_append_left (by rw [List.length_append, List.length_take]; omega), List.getElem?_append_right (by rw [List.length_take]; omega), List.length_take, Nat.min_eq_left hlt, show off + j - (off + T.length) = j - T.length by omega]
          exact hj
    · have hT : ∀ j u, T[j]? = some u → w.cell? ((⟨g, off, none⟩ : Addr).add j) = some u := fun j u hj => by
        have := (hb.read (off + j)).trans (hcell j u hj)
        unfold Addr.add
        split
        · simp_all
        · simpa using this
      rcases hx with ⟨rfl, rfl⟩ | ⟨g', off', cap', cur', rfl, hb', ha', hc', hm', hcell'⟩
      · simp at hroom; omega
      · have hr := run_append_grow (P := P) w t ty e i z ht hi hz ⟨g, off, none⟩ T.length cap T (by rw [hs]; omega) hT ⟨g', off', none⟩ N.length cap' N (by rw [hs]; omega) (hxc rfl) (by omega) (by omega) (growslice_fits (by omega) hbytes)
        have hg := made cap (by omega)
        exact ⟨_, _, hr, hg.1, hg.2, fun k h => by simp [Value.ownBlock] at h; subst h; right; simp⟩
theorem wpList_append_lane {ops : Array Oper} {rest : List Oper} {o : Oper} {a : Act} {Q : Exit → Act → World → Prop} (hgd : o.guard = none) (s x : Operand) (t : TypeId)
    (ho : o.op = .call { callee := .builtin .append, args := #[s, x], argTypes := #[t, t] })
    (e : TypeId) (i : TypeInfo) (z : Value) (bytes : Nat) (ht : P.underlying t = some (.slice e)) (hi : P.info? e = some i) (hz : i.zero = some z) (hsz : i.size = 1) (hby : i.bytes = bytes) (hzs : z.cells.size = 1)
    (v y : Value) (T N : List Value) (hs : a.eval s = v) (hx : a.eval x = y) (hv : Lane w e v T) (hy : Lane w e y N) (h1 : ∀ u ∈ N, u.oneCell' = true)
    (h63 : T.length + N.length ≤ maxLen) (hbytes : (T.length + N.length) * bytes ≤ 140737488355328)
    (h : ∀ v' w', Lane w' e v' (T ++ N) → w.grownBy w' v.ownBlock → (∀ k, v'.ownBlock = some k → v.ownBlock = some k ∨ (w.heap.size ≤ k ∧ k < w'.heap.size)) → wpList P ops Q rest (a.put o.dst v') w') : wpList P ops Q (o :: rest) a w :=
  wpList_plain hgd fun K hK => by
    obtain ⟨v', w', hr, h2, h3, h4⟩ := run_append_lane (P := P) (w := w) t o.type e i z bytes ht hi hz hsz hby hzs v y T N hv hy h1 h63 hbytes
    unfold Oper.wp execOp
    simp only [ho, resolve, invoke, builtin, Sem.run_bind, Sem.run_pure, Result.andThen_ok, List.map_toArray, List.map_cons, List.map_nil, hs, hx, hr]
    exact hK _ _ (h v' w' h2 h3 h4)
/-- A literal's row. -/
theorem Lane.lit (w : World) (e : TypeId) (cs : Array Value) (hm : cs.size ≤ maxLen) : Lane (w.alloc (.cells cs e)) e (.slice (some ⟨w.heap.size, 0, none⟩) cs.size cs.size) cs.toList :=
  .inr ⟨w.heap.size, 0, cs.size, cs, by rw [Array.length_toList], Box.made w e cs, by rw [Array.length_toList]; exact Nat.le_refl _, by omega, hm, fun j u hj => by rw [Nat.zero_add, ← Array.getElem?_toList]; exact hj⟩
end
end Go.Proofs.YtgicehhenahfpaaDoor
