/- The document's copy: what stands while it is made. -/
import Derived.Test.YtgicehhenahfpaaDoorAf
set_option linter.unusedVariables false
set_option linter.unusedSimpArgs false
namespace Go.Proofs.YtgicehhenahfpaaDoor
open Go.RowKit
attribute [local go_sem] Oper.semAt_some
/-- Append, at the operation itself. -/
theorem wp_append_lane {P : Program} {w : World} {o : Oper} {a : Act} {K : Act → World → Prop} {Q : Exit → Act → World → Prop} (s x : Operand) (t : TypeId)
    (ho : o.op = .call { callee := .builtin .append, args := #[s, x], argTypes := #[t, t] })
    (e : TypeId) (i : TypeInfo) (z : Value) (bytes : Nat) (ht : P.underlying t = some (.slice e)) (hi : P.info? e = some i) (hz : i.zero = some z) (hsz : i.size = 1) (hby : i.bytes = bytes) (hzs : z.cells.size = 1)
    (v y : Value) (T N : List Value) (hs : a.eval s = v) (hx : a.eval x = y) (hv : Lane w e v T) (hy : Lane w e y N) (h1 : ∀ u ∈ N, u.oneCell' = true)
    (h63 : T.length + N.length ≤ maxLen) (hbytes : (T.length + N.length) * bytes ≤ 140737488355328)
    (h : ∀ v' w', Lane w' e v' (T ++ N) → w.grownBy w' v.ownBlock → (∀ k, v'.ownBlock = some k → v.ownBlock = some k ∨ (w.heap.size ≤ k ∧ k < w'.heap.size)) → K (a.put o.dst v') w') : Oper.wp P o a w K Q := by
  obtain ⟨v', w', hr, h2, h3, h4⟩ := run_append_lane (P := P) (w := w) t o.type e i z bytes ht hi hz hsz hby hzs v y T N hv hy h1 h63 hbytes
  unfold Oper.wp execOp
  simp only [ho, resolve, invoke, builtin, Sem.run_bind, Sem.run_pure, Result.andThen_ok, List.map_toArray, List.map_cons, List.map_nil, hs, hx, hr]
  exact h v' w' h2 h3 h4
/-- A message: its moment, its text, who read it. -/
abbrev Msg := Nat × ByteArray × List Int
/-- A copy of the first i messages, in memory. -/
structure Cp (W : World) (B H : Nat) (m v n : Int) (c : Nat) (f : Nat → Msg) (i : Nat) (sl : Value) (xs : List Value) : Prop where
  box : Box W B 36 (dch m v n sl)
  own : W.ownsRow H 59 3 sl i xs
  all : Eld W H c xs i (.slice none 0 0)
  last : ∀ j, i = j + 1 → ∃ rv, xs[j * 3]? = some (.int .u64 (f j).1) ∧ xs[j * 3 + 1]? = some (.string (f j).2.1) ∧ xs[j * 3 + 2]? = some rv ∧ Lane W 3 rv (iv (f j).2.2) ∧ (∀ b, rv.ownBlock = some b → H ≤ b) ∧ (f j).2.2.length ≤ c ∧ Eld W H c xs j rv
  zero : i = 0 → sl = .slice none 0 0
section
variable {W w2 : World} {B H c i g cap : Nat} {m v n : Int} {f : Nat → Msg} {sl v2 : Value} {xs : List Value}
theorem Cp.below (h : Cp W B H m v n c f i sl xs) (hb : Below W.heap.size W w2) : Cp w2 B H m v n c f i sl xs := by
  have hl : ∀ ev T, Lane W 3 ev T → Lane w2 3 ev T := fun ev T h1 => h1.below hb (Nat.le_refl _)
  refine ⟨h.box.over hb h.box.inHeap, ?_, h.all.world fun ev T h1 _ => hl ev T h1, fun j hj => ?_, h.zero⟩
  · have own := h.own
    refine ⟨own.1, ?_⟩
    rcases own.2 with e | ⟨g', cap', cur', h', hH, hg, rest⟩
    · exact .inl e
    · exact .inr ⟨g', cap', cur', h', hH, (hb.block g' (Array.getElem?_eq_some_iff.1 hg).1).trans hg, rest⟩
  · obtain ⟨rv, h0, h1, h2, h3, h4, h5, h6⟩ := h.last j hj
    exact ⟨rv, h0, h1, h2, hl _ _ h3, h4, h5, h6.world fun ev T h1 _ => hl ev T h1⟩
/-- A message more. -/
theorem Cp.step (h : Cp W B H m v n c f i sl xs) (o : Obj) (hg : (W.alloc o).grownBy w2 sl.ownBlock) (hL : Lane W 3 v2 (iv (f i).2.2)) (hfar : ∀ b, v2.ownBlock = some b → H ≤ b)
    (hnew : ∀ ev T, Lane W 3 ev T → (∃ j, j < i ∧ xs[j * 3 + 2]? = some ev) → ∀ b, ev.ownBlock = some b → v2.ownBlock ≠ some b)
    (hown : w2.ownsRow H 59 3 (.slice (some ⟨g, 0, none⟩) (i + 1) cap) (i + 1) (xs ++ [.int .u64 (f i).1, .string (f i).2.1, v2])) (hR : (f i).2.2.length ≤ c) :
    Cp (w2.setCell ⟨B, 3, none⟩ (.slice (some ⟨g, 0, none⟩) (i + 1) cap)) B H m v n c f (i + 1) (.slice (some ⟨g, 0, none⟩) (i + 1) cap) (xs ++ [.int .u64 (f i).1, .string (f i).2.1, v2]) := by
  have hne : sl.ownBlock ≠ some B := own_ne h.own h.box (by decide)
  have hbx : Box w2 B 36 (dch m v n sl) := (hg.block B (h.box.more _).inHeap (fun e => hne e.symm)).trans (h.box.more _)
  have hlen : xs.length = i * 3 := h.own.1
  obtain ⟨_, cur, hgb⟩ := own_box hown
  have ngB : g ≠ B := fun e => own_ne hown hbx (by decide) (by simp [Value.ownBlock, e])
  have hl : ∀ ev T, Lane W 3 ev T → Lane (w2.setCell ⟨B, 3, none⟩ (.slice (some ⟨g, 0, none⟩) (i + 1) cap)) 3 ev T := fun ev T h1 => Lane.putFar (p := ⟨B, 3, none⟩) ((h1.more o).kept hg (by
    cases hev : ev.ownBlock with
    | none => exact .inl rfl
    | some b =>
      refine .inr fun e => ?_
      rcases h.own.2 with ⟨rfl, _⟩ | ⟨g', cap', cur', rfl, _, hgb', _⟩
      · simp [Value.ownBlock] at e
      · exact h1.far hgb' (by decide) (hev.trans e))) hbx (by decide) _
  have x0 : (xs ++ [.int .u64 (f i).1, .string (f i).2.1, v2])[i * 3]? = some (.int .u64 (f i).1) := by rw [List.getElem?_append_right (by omega), hlen, Nat.sub_self]; rfl
  have x1 : (xs ++ [.int .u64 (f i).1, .string (f i).2.1, v2])[i * 3 + 1]? = some (.string (f i).2.1) := by rw [List.getElem?_append_right (by omega), hlen, show i * 3 + 1 - i * 3 = 1 by omega]; rfl
  have x2 : (xs ++ [.int .u64 (f i).1, .string (f i).2.1, v2])[i * 3 + 2]? = some v2 := by rw [List.getElem?_append_right (by omega), hlen, show i * 3 + 2 - i * 3 = 2 by omega]; rfl
  have hpre : ∀ j, j < i * 3 → (xs ++ [.int .u64 (f i).1, .string (f i).2.1, v2])[j]? = xs[j]? := fun j hj => List.getElem?_append_left (by omega)
  have hEl : ∀ rv' : Value, (∀ ev T, Lane W 3 ev T → (∃ j, j < i ∧ xs[j * 3 + 2]? = some ev) → ∀ b, ev.ownBlock = some b → rv'.ownBlock ≠ some b) → Eld (w2.setCell ⟨B, 3, none⟩ (.slice (some ⟨g, 0, none⟩) (i + 1) cap)) H c (xs ++ [.int .u64 (f i).1, .string (f i).2.1, v2]) i rv' := fun rv' hrv k hk => by
    obtain ⟨t, s, R, ev, h0, h1, h2, h3, h4, h5⟩ := h.all k hk
    exact ⟨t, s, R, ev, (hpre _ (by omega)).trans h0, (hpre _ (by omega)).trans h1, (hpre _ (by omega)).trans h2, hl _ _ h3, fun j hj => ⟨(h4 j hj).1, hrv ev _ h3 ⟨k, hk, h2⟩ j hj⟩, h5⟩
  refine ⟨hbx.put 3 _, ownsRow_setCell_other hown (by simpa [Value.ownBlock] using ngB) _, fun k hk => ?_, fun j hj => ?_, fun h => by omega⟩
  · by_cases e : k = i
    · subst e
      exact ⟨_, _, _, v2, x0, x1, x2, hl _ _ hL, fun j hj => ⟨hfar j hj, fun e => by simp [Value.ownBlock] at e⟩, hR⟩
    · exact hEl (.slice none 0 0) (fun _ _ _ _ b _ e => by simp [Value.ownBlock] at e) k (by omega)
  · obtain rfl : i = j := by omega
    exact ⟨v2, x0, x1, x2, hl _ _ hL, hfar, hR, hEl v2 hnew⟩
/-- The copy is whole. -/
theorem Cp.done {k : Nat} (h : Cp W B H m v n c f (k + 1) sl xs) (hk : k < c) : Dc W B H m v n c (some (f k)) := by
  obtain ⟨rv, h0, h1, h2, h3, h4, h5, h6⟩ := h.last k rfl
  obtain ⟨g, cap, rfl⟩ : ∃ g cap, sl = .slice (some ⟨g, 0, none⟩) (k + 1) cap := by
    rcases h.own.2 with ⟨e, h'⟩ | ⟨g', cap', cur', h', _⟩
    · simp at h'
    · exact ⟨g', cap', h'⟩
  exact ⟨g, k, cap, xs, rv, h.box, h.own, h0, h1, h2, h3, h4, hk, h5, h6⟩
end
end Go.Proofs.YtgicehhenahfpaaDoor
