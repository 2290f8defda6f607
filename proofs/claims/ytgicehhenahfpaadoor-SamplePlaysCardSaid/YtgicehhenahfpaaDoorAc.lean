/- Writing into both channels. -/
import Derived.Test.YtgicehhenahfpaaDoorAb
set_option linter.unusedVariables false
set_option linter.unusedSimpArgs false
namespace Go.Proofs.YtgicehhenahfpaaDoor
open Go.RowKit
theorem Dc.only {w w' : World} {B C H c : Nat} {m v n : Int} {o : Option (Nat × ByteArray × List Int)} {cs : Array Value} (h : Dc w B H m v n c o) (k : Only C w w') (hx : Box w C 56 cs) : Dc w' B H m v n c o := by
  have far : ∀ {t : TypeId} {g : Nat} {xs : Array Value}, Box w g t xs → t ≠ 56 → g ≠ C := fun {t g xs} hb ht e => by
    subst e
    have h1 : w.heap[g]? = some (.cells xs t (0, 0)) := hb
    rw [show w.heap[g]? = _ from hx] at h1
    cases h1
    exact ht rfl
  rcases o with _ | ⟨t, s, R⟩
  · exact Box.only h k (far h (by decide))
  · obtain ⟨g, q, cap, xs, rv, hd⟩ := h
    obtain ⟨_, cur, hgb⟩ := own_box hd.own
    have ng := far hgb (by decide)
    refine ⟨g, q, cap, xs, rv, hd.box.only k (far hd.box (by decide)), ?_, hd.x0, hd.x1, hd.x2, hd.lane.only k hx (by decide), hd.far, hd.hk, hd.hR, hd.eld.world fun ev T h1 _ => h1.only k hx (by decide)⟩
    exact hd.own.kept (row := some C) ⟨k.os, k.tape, k.output, k.size, fun i hi hne => k.block i hi (fun e => hne (by rw [e]))⟩ (.inr (by simpa [Value.ownBlock] using ng))
theorem Dc.mono {w : World} {B H c c' : Nat} {m v n : Int} {o : Option (Nat × ByteArray × List Int)} (h : Dc w B H m v n c o) (hc : c ≤ c') : Dc w B H m v n c' o := by
  rcases o with _ | ⟨t, s, R⟩
  · exact h
  · obtain ⟨g, q, cap, xs, rv, hd⟩ := h
    exact ⟨g, q, cap, xs, rv, hd.box, hd.own, hd.x0, hd.x1, hd.x2, hd.lane, hd.far, Nat.lt_of_lt_of_le hd.hk hc, Nat.le_trans hd.hR hc, hd.eld.kept (fun _ _ => rfl) (fun ev T h1 h2 => ⟨h1, fun j hj => (h2 j hj).2⟩) hc⟩
section
variable {m v : Int} {n c B C H : Nat} {w : World} {o : Option (Nat × ByteArray × List Int)}
theorem Pr.ne (h : Pr w C B H m v n c o) : B ≠ C := by
  obtain ⟨sl, hb⟩ := h.doc.cells
  intro e
  subst e
  have h1 : w.heap[B]? = some (.cells _ 36 (0, 0)) := hb
  rw [show w.heap[B]? = _ from h.prog] at h1
  simp only [Option.some.injEq, Obj.cells.injEq] at h1
  exact absurd h1.2.1 (by decide)
theorem Pr.below {w' : World} (h : Pr w C B H m v n c o) (hb : Below w.heap.size w w') : Pr w' C B H m v n c o := ⟨h.prog.over hb h.prog.inHeap, h.doc.below hb, h.ok, Nat.le_trans h.hH hb.size⟩
theorem Pr.mono {c' : Nat} (h : Pr w C B H m v n c o) (hc : c ≤ c') : Pr w C B H m v n c' o := ⟨h.prog, h.doc.mono hc, h.ok, h.hH⟩
/-- The document's Write, whatever there was. -/
theorem dwrite_any (h : Dc w B H m v n c o) (hH : H ≤ w.heap.size) (hc : c ≤ 1048576) (t : Nat) (x : ByteArray) (hx : x.size ≤ m) :
    Calls Tryd.prog 23 #[.pointer (some ⟨B, 0, none⟩), .int .u64 t, .string x] w fun e w' => e = .returned (.int .i64 0) ∧ Dc w' B H m v n (c + 1) (some (t, x, [])) ∧ Touch (Kp B H) w w' := by
  rcases o with _ | ⟨t0, s0, R0⟩
  · exact dwrite_ok h (World.ownsRow_nil _ _ _ _) (fun i hi => absurd hi (Nat.not_lt_zero i)) hH (Nat.zero_le _) hc t x hx
  · obtain ⟨g, q, cap, xs, rv, hd⟩ := h
    exact dwrite_ok hd.box hd.own hd.all hH hd.hk hc t x hx
theorem chanO_write (m v : Int) (n t : Nat) (x : ByteArray) {F : Nat → Bool} (hF : ∀ k, upTo F n k = marks n [] k) : chan m v n true t x (upTo F ((n : Int)).toNat) = chanO m v n (some (t, x, [])) := by
  rw [Int.toNat_natCast]
  exact chan_ext fun k _ => hF k
/-- Write of the program, then of the document. -/
theorem write_pair (h : Pr w C B H m v n c o) (hCH : C < H) (hn : n ≤ 16) (hc : c ≤ 1048576) (t : Nat) (ht : t < 18446744073709551616) (x : ByteArray) (hx : x.size ≤ 1048576) :
    Calls Tryd.prog 11 #[.pointer (some ⟨C, 0, none⟩), .int .u64 t, .string x] w fun e w1 => ∃ z, e = .returned (.int .i64 z) ∧ Only C w w1 ∧ Hid (∀ W, Below w1.heap.size w1 W →
      Calls Tryd.prog 23 #[.pointer (some ⟨B, 0, none⟩), .int .u64 t, .string x] W fun e w' => e = .returned (.int .i64 z) ∧ ∃ o', Pr w' C B H m v n (c + 1) o' ∧ Touch (Kp B H) W w') := by
  by_cases hl : m < x.size
  · have hp : Calls Tryd.prog 11 #[.pointer (some ⟨C, 0, none⟩), .int .u64 t, .string x] w fun e w' => e = .returned (.int .i64 5) ∧ w = w' := by
      rcases o with _ | ⟨t0, s0, R0⟩ <;> exact write_long h.prog t x hl
    refine hp.mono ?_
    rintro e w1 ⟨rfl, rfl⟩
    refine ⟨5, rfl, Only.refl _ _, Lib.hid fun W hW => ?_⟩
    obtain ⟨sl, hb⟩ := (h.doc.below hW).cells
    refine (dwrite_long hb t x hl).mono ?_
    rintro e w' ⟨rfl, rfl⟩
    exact ⟨rfl, o, (h.below hW).mono (Nat.le_succ _), Touch.refl _ _⟩
  · have hl' : (x.size : Int) ≤ m := by omega
    have hp : Calls Tryd.prog 11 #[.pointer (some ⟨C, 0, none⟩), .int .u64 t, .string x] w fun e w' => e = .returned (.int .i64 0) ∧ Box w' C 56 (chanO m v n (some (t, x, []))) ∧ Only C w w' := by
      rcases o with _ | ⟨t0, s0, R0⟩
      · refine (write_ok h.prog t x hl' (by omega) (by omega)).mono ?_
        rintro e w' ⟨rfl, h1, h2⟩
        exact ⟨rfl, by rw [← chanO_write m v n t x (marks_first n)]; exact h1, h2⟩
      · refine (write_ok h.prog t x hl' (by omega) (by omega)).mono ?_
        rintro e w' ⟨rfl, h1, h2⟩
        exact ⟨rfl, by rw [← chanO_write m v n t x (marks_written n R0)]; exact h1, h2⟩
    refine hp.mono ?_
    rintro e w1 ⟨rfl, h1, h2⟩
    refine ⟨0, rfl, h2, Lib.hid fun W hW => ?_⟩
    have hd := (h.doc.only h2 h.prog).below hW
    have hH : H ≤ W.heap.size := Nat.le_trans h.hH (Nat.le_trans h2.size hW.size)
    refine (dwrite_any hd hH hc t x hl').mono ?_
    rintro e w' ⟨rfl, h3, h4⟩
    have hne := h.ne
    exact ⟨rfl, _, ⟨(h1.over hW h1.inHeap).touch h4 (by rintro (e | e); exact hne e.symm; omega), h3, ⟨ht, hx⟩, Nat.le_trans hH h4.size⟩, h4⟩
end
end Go.Proofs.YtgicehhenahfpaaDoor
