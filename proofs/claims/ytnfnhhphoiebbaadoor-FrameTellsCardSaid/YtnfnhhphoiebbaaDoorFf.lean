/- New of the program: a table of windows. -/
import Derived.Test.YtnfnhhphoiebbaaDoorFe
set_option linter.unusedVariables false
set_option linter.unusedSimpArgs false
namespace Go.Proofs.YtnfnhhphoiebbaaDoor
open Go.RowKit
theorem wp_append_lane {P : Program} {w : World} {o : Oper} {a : Act} {K : Act → World → Prop} {Q : Exit → Act → World → Prop} (s x : Operand) (t : TypeId)
    (ho : o.op = .call { callee := .builtin .append, args := #[s, x], argTypes := #[t, t] })
    (e : TypeId) (i : TypeInfo) (z : Value) (bytes : Nat) (ht : P.underlying t = some (.slice e)) (hi : P.info? e = some i) (hz : i.zero = some z) (hsz : i.size = 1) (hby : i.bytes = bytes) (hzs : z.cells.size = 1)
    (v y : Value) (T N : List Value) (hs : a.eval s = v) (hx : a.eval x = y) (hv : Lane w e v T) (hy : Lane w e y N) (h1 : ∀ u ∈ N, u.oneCell' = true)
    (h63 : T.length + N.length ≤ maxLen) (hbytes : (T.length + N.length) * bytes ≤ 140737488355328)
    (h : ∀ v' w', Lane w' e v' (T ++ N) → w.grownBy w' v.ownBlock → (∀ k, v'.ownBlock = some k → v.ownBlock = some k ∨ (w.heap.size ≤ k ∧ k < w'.heap.size)) → K (a.put o.dst v') w') : Oper.wp P o a w K Q := by
  obtain ⟨v', w', hr, h2, h3, h4⟩ := run_append_lane (P := P) (w := w) t o.type e i z bytes ht hi hz hsz hby hzs v y T N hv hy h1 h63 hbytes
  unfold Oper.wp execOp
  simp only [ho, resolve, invoke, builtin, Sem.run_bind, Sem.run_pure, Result.andThen_ok, List.map_toArray, List.map_cons, List.map_nil, hs, hx, hr]
  exact h v' w' h2 h3 h4
/-- Where windows begin. -/
def begs : Nat → List Win → List Nat
  | _, [] => []
  | s, w :: r => s :: begs (s + w.2) r
theorem begs_len : ∀ (s : Nat) (l : List Win), (begs s l).length = l.length
  | _, [] => rfl
  | s, w :: r => by simp [begs, begs_len]
theorem begs_snoc : ∀ (s : Nat) (l : List Win) (f : Win), begs s (l ++ [f]) = begs s l ++ [s + tot l]
  | s, [], f => by simp [begs, tot]
  | s, w :: r, f => by simp [begs, begs_snoc, tot]; omega
def bvals (l : List Win) : List Value := (begs 0 l).map fun (x : Nat) => .int .u64 x
theorem bvals_len (l : List Win) : (bvals l).length = l.length := by simp [bvals, begs_len]
theorem bvals_snoc (l : List Win) (f : Win) : bvals (l ++ [f]) = bvals l ++ [.int .u64 (tot l : Nat)] := by simp [bvals, begs_snoc]
theorem take_snoc {l : List Win} {k : Nat} {f : Win} (h : l[k]? = some f) : l.take (k + 1) = l.take k ++ [f] := by rw [List.take_add_one, h]; rfl
theorem tot_take {l : List Win} {k : Nat} {f : Win} (h : l[k]? = some f) : tot (l.take (k + 1)) = tot (l.take k) + f.2 := by rw [take_snoc h, tot_app]; simp [tot]
theorem tot_take_le (l : List Win) (k : Nat) : tot (l.take k) ≤ tot l := by
  have := tot_app (l.take k) (l.drop k)
  rw [List.take_append_drop] at this
  omega
/-- A slice, with no room left. -/
theorem run_cut {g off k cap : Nat} (hk : k ≤ cap) (hm : cap ≤ maxLen) (wx : World) : (Instr.slice 55 (.slice (some ⟨g, off, none⟩) k cap) none (some (.int .i64 k)) (some (.int .i64 k))).run Tryd.prog wx = .ok (.slice (some ⟨g, off, none⟩) k k) wx := by
  obtain ⟨i0, hi, iz0, iz1, iz2⟩ := info_parts info32
  have h1 : (0 : Int) ≤ (k : Int) ∧ (k : Int) ≤ (cap : Int) := by omega
  have h3 : (⟨g, off, none⟩ : Addr).add 0 = ⟨g, off, none⟩ := by unfold Addr.add; split <;> simp_all
  simp [Instr.slice, Instr.sliceBounds, Instr.sliceBound, run_underlying Tryd.underlying55, sizeOf, typeInfo, hi, iz1, Result.andThen, h1, hk, go_sem]
  try (by_cases hc : k = 0 <;> simp [hc, h3])
theorem run_cut0 (wx : World) : (Instr.slice 55 (.slice none 0 0) none (some (.int .i64 (0 : Nat))) (some (.int .i64 (0 : Nat)))).run Tryd.prog wx = .ok (.slice none 0 0) wx := by
  obtain ⟨i0, hi, iz0, iz1, iz2⟩ := info_parts info32
  simp [Instr.slice, Instr.sliceBounds, Instr.sliceBound, run_underlying Tryd.underlying55, sizeOf, typeInfo, hi, iz1, Result.andThen, go_sem]
theorem lane_cut {w : World} {v : Value} {T : List Value} (h : Lane w 32 v T) : ∃ v2 : Value, (∀ wx, (Instr.slice 55 v none (some (.int .i64 T.length)) (some (.int .i64 T.length))).run Tryd.prog wx = .ok v2 wx) ∧ Lane w 32 v2 T ∧ v2.ownBlock = v.ownBlock := by
  rcases h with ⟨rfl, rfl⟩ | ⟨g, off, cap, cur, rfl, hb, h1, h2, h3, h4⟩
  · exact ⟨_, run_cut0, .inl ⟨rfl, rfl⟩, rfl⟩
  · exact ⟨_, run_cut h1 h3, .inr ⟨g, off, T.length, cur, rfl, hb, Nat.le_refl _, by omega, by omega, h4⟩, rfl⟩
theorem own_far {w : World} {base n : Nat} {v bv : Value} {xs T : List Value} (h : w.ownsRow base 51 2 v n xs) (hl : Lane w 32 bv T) : v.ownBlock = none ∨ v.ownBlock ≠ bv.ownBlock := by
  rcases h.2 with ⟨rfl, _⟩ | ⟨g, cap, cur, rfl, _, hh, _⟩
  · exact .inl rfl
  · exact .inr fun e => hl.far (b := g) (t := 51) (cs := cur) hh (by decide) e.symm
theorem own_putFar {w : World} {base n X : Nat} {v : Value} {xs : List Value} {t : TypeId} {cs : Array Value} (h : w.ownsRow base 51 2 v n xs) (k : Box w X t cs) (ht : t ≠ 51) (i : Nat) (u : Value) : (w.setCell ⟨X, i, none⟩ u).ownsRow base 51 2 v n xs := by
  obtain ⟨h1, h2⟩ := h
  refine ⟨h1, ?_⟩
  rcases h2 with h2 | ⟨g, cap, cur, rfl, hg, hh, r⟩
  · exact .inl h2
  · refine .inr ⟨g, cap, cur, rfl, hg, (Below.heap_setCell _ _ _ _ ?_).trans hh, r⟩
    intro e
    have e' : g = X := e
    rw [e'] at hh
    have h1 : w.heap[X]? = _ := k
    rw [hh] at h1
    cases h1
    exact ht rfl
/-- A table under way. -/
structure Nw (w wr : World) (p : Nat) (l : List Win) (T : List Value) (tl : Nat) (wv bv : Value) : Prop where
  box : Box wr p 57 #[wv, bv, .int .u64 tl]
  own : wr.ownsRow w.heap.size 51 2 wv l.length (wcells l)
  lane : Lane wr 32 bv T
  far : ∀ b, bv.ownBlock = some b → w.heap.size ≤ b
  bel : Below w.heap.size w wr
  hp : w.heap.size ≤ p
section
variable {w wr : World} {p tl : Nat} {l : List Win} {T : List Value} {wv bv : Value}
theorem Nw.size (h : Nw w wr p l T tl wv bv) : w.heap.size ≤ wr.heap.size := h.bel.size
theorem Nw.more (h : Nw w wr p l T tl wv bv) (o : Obj) : Nw w (wr.alloc o) p l T tl wv bv := ⟨h.box.more o, h.own.alloc o, h.lane.more o, h.far, h.bel.alloc h.bel.size o, h.hp⟩
theorem Nw.drawn1 (h : Nw w wr p l T tl wv bv) : Nw w wr.drew p l T tl wv bv := ⟨h.box.drawn1, h.own.drew, h.lane.drawn1, h.far, h.bel.drew, h.hp⟩
theorem Nw.setB (h : Nw w wr p l T tl wv bv) {w2 : World} {v2 bv2 : Value} {T2 : List Value} (hg : wr.grownBy w2 v2.ownBlock) (hv : v2.ownBlock = bv.ownBlock) (hl : Lane w2 32 bv2 T2) (hb : ∀ k, bv2.ownBlock = some k → v2.ownBlock = some k ∨ (wr.heap.size ≤ k ∧ k < w2.heap.size)) : Nw w (w2.setCell ⟨p, 1, none⟩ bv2) p l T2 tl wv bv2 := by
  have hbx : Box w2 p 57 #[wv, bv, .int .u64 tl] := (hg.block p h.box.inHeap (fun e => by rw [hv] at e; exact h.lane.far h.box (by decide) e.symm)).trans h.box
  have hbel : Below w.heap.size w w2 := h.bel.grown hg h.bel.size (fun k hk => h.far k (hv ▸ hk))
  exact ⟨box_eq (hbx.put 1 _) rfl, own_putFar (h.own.kept hg (by rw [hv]; exact own_far h.own h.lane)) hbx (by decide) _ _, hl.putFar (p := ⟨p, 1, none⟩) hbx (by decide) _, fun b hbb => by
    rcases hb b hbb with e | e
    · exact h.far b (hv ▸ e)
    · have := h.bel.size; omega, hbel.setCell (p := ⟨p, 1, none⟩) h.hp _, h.hp⟩
theorem Nw.boxB (h : Nw w wr p l T tl wv bv) {w2 : World} {v2 : Value} (hg : wr.grownBy w2 v2.ownBlock) (hv : v2.ownBlock = bv.ownBlock) : Box w2 p 57 #[wv, bv, .int .u64 tl] := (hg.block p h.box.inHeap (fun e => by rw [hv] at e; exact h.lane.far h.box (by decide) e.symm)).trans h.box
theorem Nw.setL (h : Nw w wr p l T tl wv bv) (t2 : Nat) : Nw w (wr.setCell ⟨p, 2, none⟩ (.int .u64 t2)) p l T t2 wv bv :=
  ⟨box_eq (h.box.put 2 _) rfl, own_putFar h.own h.box (by decide) _ _, h.lane.putFar (p := ⟨p, 2, none⟩) h.box (by decide) _, h.far, h.bel.setCell (p := ⟨p, 2, none⟩) h.hp _, h.hp⟩
end
end Go.Proofs.YtnfnhhphoiebbaaDoor
