/- The document's channel in memory, and what Write does with it. -/
import Derived.Test.YtgicehhenahfpaaDoorR
import Derived.Deep.AppendLies
import Derived.OneCell
import Derived.OwnWalk
set_option linter.unusedVariables false
set_option linter.unusedSimpArgs false
namespace Go.Proofs.YtgicehhenahfpaaDoor
open Go.RowKit
attribute [local go_sem] Oper.semAt_some
/-- The cells of the document's channel. -/
def dch (m v n : Int) (sl : Value) : Array Value := #[.int .i64 m, .int .u32 v, .int .i64 n, sl]
/-- B alone of the elder blocks may have turned, and what is H or newer. -/
def Kp (B H : Nat) (k : Nat) : Prop := k = B ∨ H ≤ k
theorem Kp.trans {B H : Nat} {w w' w'' : World} (h : Touch (Kp B H) w w') (k : Touch (Kp B H) w' w'') : Touch (Kp B H) w w'' := h.trans (k.mono fun _ => .inl)
/-- The elder messages stand, too, each with readers of its own. -/
def Eld (w : World) (H c : Nat) (xs : List Value) (k : Nat) (rv : Value) : Prop := ∀ i, i < k → ∃ (t : Nat) (s : ByteArray) (R : List Int) (ev : Value), xs[i * 3]? = some (.int .u64 t) ∧ xs[i * 3 + 1]? = some (.string s) ∧ xs[i * 3 + 2]? = some ev ∧ Lane w 3 ev (iv R) ∧ (∀ j, ev.ownBlock = some j → H ≤ j ∧ rv.ownBlock ≠ some j) ∧ R.length ≤ c
theorem Eld.kept {w w' : World} {H c c' k : Nat} {xs ys : List Value} {rv rv' : Value} (h : Eld w H c xs k rv) (hx : ∀ i, i < k * 3 → ys[i]? = xs[i]?) (hL : ∀ ev T, Lane w 3 ev T → (∀ j, ev.ownBlock = some j → H ≤ j ∧ rv.ownBlock ≠ some j) → Lane w' 3 ev T ∧ ∀ j, ev.ownBlock = some j → rv'.ownBlock ≠ some j) (hc : c ≤ c') : Eld w' H c' ys k rv' := fun i hi => by
  obtain ⟨t, s, R, ev, h0, h1, h2, h3, h4, h5⟩ := h i hi
  obtain ⟨g1, g2⟩ := hL ev _ h3 h4
  exact ⟨t, s, R, ev, (hx _ (by omega)).trans h0, (hx _ (by omega)).trans h1, (hx _ (by omega)).trans h2, g1, fun j hj => ⟨(h4 j hj).1, g2 j hj⟩, Nat.le_trans h5 hc⟩
theorem Eld.world {w w' : World} {H c k : Nat} {xs : List Value} {rv : Value} (h : Eld w H c xs k rv) (hL : ∀ ev T, Lane w 3 ev T → (∀ j, ev.ownBlock = some j → H ≤ j) → Lane w' 3 ev T) : Eld w' H c xs k rv := h.kept (fun _ _ => rfl) (fun ev T h1 h2 => ⟨hL ev T h1 fun j hj => (h2 j hj).1, fun j hj => (h2 j hj).2⟩) (Nat.le_refl _)
/-- A channel with messages: the last one's moment, text, and who read it. -/
structure Dl (w : World) (B H : Nat) (m v n : Int) (c t : Nat) (s : ByteArray) (R : List Int) (g k cap : Nat) (xs : List Value) (rv : Value) : Prop where
  box : Box w B 36 (dch m v n (.slice (some ⟨g, 0, none⟩) (k + 1) cap))
  own : w.ownsRow H 59 3 (.slice (some ⟨g, 0, none⟩) (k + 1) cap) (k + 1) xs
  x0 : xs[k * 3]? = some (.int .u64 t)
  x1 : xs[k * 3 + 1]? = some (.string s)
  x2 : xs[k * 3 + 2]? = some rv
  lane : Lane w 3 rv (iv R)
  far : ∀ j, rv.ownBlock = some j → H ≤ j
  hk : k < c
  hR : R.length ≤ c
  eld : Eld w H c xs k rv
/-- All messages stand. -/
theorem Dl.all {w : World} {B H : Nat} {m v n : Int} {c t : Nat} {s : ByteArray} {R : List Int} {g k cap : Nat} {xs : List Value} {rv : Value} (h : Dl w B H m v n c t s R g k cap xs rv) : Eld w H c xs (k + 1) (.slice none 0 0) := fun i hi => by
  by_cases e : i = k
  · subst e
    exact ⟨t, s, R, rv, h.x0, h.x1, h.x2, h.lane, fun j hj => ⟨h.far j hj, fun e => by simp [Value.ownBlock] at e⟩, h.hR⟩
  · obtain ⟨t, s, R, ev, h0, h1, h2, h3, h4, h5⟩ := h.eld i (by omega)
    exact ⟨t, s, R, ev, h0, h1, h2, h3, fun j hj => ⟨(h4 j hj).1, fun e => by simp [Value.ownBlock] at e⟩, h5⟩
/-- The document's channel: none, or the last message. -/
def Dc (w : World) (B H : Nat) (m v n : Int) (c : Nat) : Option (Nat × ByteArray × List Int) → Prop
  | none => Box w B 36 (dch m v n (.slice none 0 0))
  | some (t, s, R) => ∃ g k cap xs rv, Dl w B H m v n c t s R g k cap xs rv
theorem info59 : (Tryd.prog.info? 59).map (fun i => (i.zero, i.size, i.bytes)) = some (some (.agg #[.int .u64 0, .string ⟨#[]⟩, .slice none 0 0]), 3, 48) := by kernel_rfl
theorem row_ne {w : World} {g X : Nat} {e t : TypeId} {cur cs : Array Value} (h : w.heap[g]? = some (.cells cur e (0, 0))) (k : Box w X t cs) (ht : t ≠ e) : g ≠ X := fun e' => by
  subst e'
  have k' : w.heap[g]? = some (.cells cs t (0, 0)) := k
  rw [h] at k'
  cases k'
  exact ht rfl
theorem own_ne {w : World} {H B k : Nat} {e t : TypeId} {z : Nat} {sl : Value} {xs : List Value} {cs : Array Value} (h : w.ownsRow H e z sl k xs) (hb : Box w B t cs) (ht : t ≠ e) : sl.ownBlock ≠ some B := fun e' => by
  rcases h.2 with ⟨rfl, _⟩ | ⟨g, cap, cur, rfl, _, hg, _⟩
  · cases e'
  · exact row_ne hg hb ht (by simpa [Value.ownBlock] using e')
theorem dwrite_long {w : World} {B : Nat} {m v n : Int} {sl : Value} (hb : Box w B 36 (dch m v n sl)) (t : Int) (x : ByteArray) (hx : m < x.size) : Calls Tryd.prog 23 #[.pointer (some ⟨B, 0, none⟩), .int .u64 t, .string x] w fun e w' => e = .returned (.int .i64 5) ∧ w' = w := by
  have c0 : w.cell? ⟨B, 0, none⟩ = some (.int .i64 m) := hb.read 0
  go_enter Tryd.func23, Tryd.ntmps23
  go_wp2
  go_ret
  exact ⟨rfl, rfl⟩
set_option maxHeartbeats 1000000 in
theorem dwrite_ok {w : World} {B H k c : Nat} {m v n : Int} {sl : Value} {xs : List Value} (hb : Box w B 36 (dch m v n sl)) (ho : w.ownsRow H 59 3 sl k xs) (he : Eld w H c xs k (.slice none 0 0)) (hH : H ≤ w.heap.size) (hk : k ≤ c) (hc : c ≤ 1048576) (t : Nat) (x : ByteArray) (hx : x.size ≤ m) :
    Calls Tryd.prog 23 #[.pointer (some ⟨B, 0, none⟩), .int .u64 t, .string x] w fun e w' => e = .returned (.int .i64 0) ∧ Dc w' B H m v n (c + 1) (some (t, x, [])) ∧ Touch (Kp B H) w w' := by
  have c0 : w.cell? ⟨B, 0, none⟩ = some (.int .i64 m) := hb.read 0
  have c3 : w.cell? ⟨B, 3, none⟩ = some sl := hb.read 3
  have f3 := hb.warm 3
  obtain ⟨i0, hi, iz0, iz1, iz2⟩ := info_parts info59
  have HO := Lib.hid ho
  have HB := Lib.hid hb
  have HE := Lib.hid he
  have hx' : ¬ (m < (x.size : Int)) := by omega
  clear ho hb he
  go_enter Tryd.func23, Tryd.ntmps23
  go_wp2_with (at_builtin; go_loud (refine wpList_append_lies _ rfl _ _ 34 rfl H 59 i0 (.agg #[.int .u64 0, .string ⟨#[]⟩, .slice none 0 0]) 3 48 Tryd.underlying34 hi iz0 iz1 iz2 rfl (by decide) _ _ _ rfl (HO.out.alloc _) ⟨_, 0, none⟩ 1 1 [.int .u64 t, .string x, .slice none 0 0] rfl rfl ?d1 ?d2 ?d3 ?d4 ?d5 ?d6 _ rfl ?_))
  case d2 => first | exact ⟨rfl, rfl, rfl⟩ | (intro u hu; simp at hu; rcases hu with rfl | rfl | rfl <;> rfl)
  case d4 => unfold maxLen; omega
  case d5 => omega
  case d6 => first | omega | (simp; omega)
  intro g2 cap2 w2 hown2 hg2 hat hlt
  have HM := Lib.hid ((Touch.ofBelow ((Below.refl _ _).alloc (Nat.le_refl _) _) : Touch (Kp B H) w _).grown hg2 (fun j hj => by
    have := HO.out.lt j hj
    exact .inl (.inr this.1)))
  have hbx2 : Box w2 B 36 (dch m v n sl) := (hg2.block B (HB.out.more _).inHeap (fun e => own_ne HO.out HB.out (by decide) e.symm)).trans (HB.out.more _)
  have c2 : w2.cell? ⟨B, 3, none⟩ = some sl := hbx2.read 3
  have f2 := hbx2.warm 3
  have he2 : Eld w2 H (c + 1) (xs ++ [.int .u64 t, .string x, .slice none 0 0]) k (.slice none 0 0) := HE.out.kept (fun i hi => List.getElem?_append_left (by have := HO.out.1; omega)) (fun ev T h1 h2 => ⟨(h1.more _).kept hg2 (by
    cases hev : ev.ownBlock with
    | none => exact .inl rfl
    | some b =>
      refine .inr fun e => ?_
      rcases HO.out.2 with ⟨rfl, _⟩ | ⟨g', cap', cur', rfl, _, hgb, _⟩
      · simp [Value.ownBlock] at e
      · exact h1.far hgb (by decide) (hev.trans e)), fun j hj e => by simp [Value.ownBlock] at e⟩) (Nat.le_succ _)
  have HX := Lib.hid (And.intro hbx2 (And.intro hown2 hat))
  have HE2 := Lib.hid he2
  clear he2
  clear hbx2 hown2 hat hg2 hi iz0 iz1 iz2 c0 c3 f3
  go_wp2
  go_ret
  obtain ⟨hbx, hown, hat⟩ := HX.out
  have hl : xs.length = k * 3 := HO.out.1
  have hne : g2 ≠ B := fun e => own_ne hown hbx (by decide) (by simp [Value.ownBlock, e])
  refine ⟨rfl, ⟨g2, k, cap2, xs ++ [.int .u64 t, .string x, .slice none 0 0], .slice none 0 0, ⟨hbx.put 3 _, ownsRow_setCell_other hown (by simpa [Value.ownBlock] using hne) _, ?_, ?_, ?_, Lane.nil _ _, fun j h => by (simp [Value.ownBlock] at h), by omega, by simp, ?_⟩⟩, HM.out.put (.inl (.inl rfl)) _⟩
  · rw [List.getElem?_append_right (by omega), hl, Nat.sub_self]; rfl
  · rw [List.getElem?_append_right (by omega), hl, show k * 3 + 1 - k * 3 = 1 by omega]; rfl
  · rw [List.getElem?_append_right (by omega), hl, show k * 3 + 2 - k * 3 = 2 by omega]; rfl
  · exact HE2.out.world fun ev T h1 _ => h1.putFar (p := ⟨B, 3, none⟩) hbx (by decide) _
end Go.Proofs.YtgicehhenahfpaaDoor
