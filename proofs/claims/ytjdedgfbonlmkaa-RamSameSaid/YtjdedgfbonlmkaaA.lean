/- A memory: what it is; what New, Size, Held, Reserve, Drop answer. -/
import Derived.Test.YtjdedgfbonlmkaaRows
import Derived.Test.YtjdedgfbonlmkaaLn
import Derived.WalkSmall
import Derived.Laws.BytesArg
import Derived.Laws.Rows
import Derived.Deep.RegionWith
import Derived.Deep.QuietTactic
import Derived.BigQuiet
import Derived.RegionTactic
import Derived.BigRegion
set_option linter.unusedVariables false
set_option linter.unusedSimpArgs false
namespace Go.Proofs.Ytjdedgfbonlmkaa
open Go.RowKit

theorem bool_eq {a b : Bool} (h : a = b) : Ending.returned (.bool a) = .returned (.bool b) := by rw [h]
theorem info5 : (Try.prog.info? 5).map (fun i => (i.zero, i.size, i.bytes)) = some (some (.int .u8 0), 1, 1) := by kernel_rfl
def vals (l : List UInt8) : List Value := l.map fun c => .int .u8 c.toNat
theorem vals_len (l : List UInt8) : (vals l).length = l.length := by simp [vals]
theorem vals_get {l : List UInt8} {i : Nat} (h : i < l.length) : (vals l).toArray[i]? = some (.int .u8 (l[i].toNat : Int)) := by simp [vals, h]
theorem vals_set (l : List UInt8) (i : Nat) (c : UInt8) : (vals l).toArray.setIfInBounds i (.int .u8 (c.toNat : Int)) = (vals (l.set i c)).toArray := by
  simp [vals, List.map_set]
/-- A memory of N bytes, and its reservation. -/
structure Rm (w : World) (B g N at' wd : Nat) (l : List UInt8) : Prop where
  box : Box w B 65 #[.slice (some ⟨g, 0, none⟩) N N, .int .u64 at', .int .i64 wd]
  mem : Box w g 5 (vals l).toArray
  len : l.length = N
  big : 4096 ≤ N
  top : N ≤ 65536
  at1 : at' ≤ 65536
theorem Rm.ne {w : World} {B g N at' wd : Nat} {l : List UInt8} (h : Rm w B g N at' wd l) : g ≠ B := by
  rintro rfl
  have h1 : w.heap[g]? = _ := h.box
  have h2 : w.heap[g]? = _ := h.mem
  have h3 := Option.some.inj (h1.symm.trans h2)
  injection h3 with h4 h5
  exact absurd h5 (by decide)
/-- Nothing, if b. -/
def gone (b : Bool) (x : Nat) : Nat := if b = true then 0 else x
/-- The new one, if b. -/
def took (b : Bool) (y x : Nat) : Nat := if b = true then y else x
/-- What a method may turn. -/
def Own2 (B g : Nat) (k : Nat) : Prop := k = B ∨ k = g
section
variable {w w' : World} {B g N at' wd : Nat} {l : List UInt8}
theorem Rm.drawn (h : Rm w B g N at' wd l) (n : Nat) : Rm (w.drewN n) B g N at' wd l := ⟨h.box.drawn n, h.mem.drawn n, h.len, h.big, h.top, h.at1⟩
theorem Rm.more (h : Rm w B g N at' wd l) (o : Obj) : Rm (w.alloc o) B g N at' wd l := ⟨h.box.more o, h.mem.more o, h.len, h.big, h.top, h.at1⟩
theorem Rm.held (h : Rm w B g N at' wd l) (a v : Nat) (ha : a ≤ 65536) : Rm ((w.setCell ⟨B, 1, none⟩ (.int .u64 a)).setCell ⟨B, 2, none⟩ (.int .i64 v)) B g N a v l :=
  ⟨box_eq ((h.box.put 1 _).put 2 _) rfl, (h.mem.putFar h.ne _).putFar h.ne _, h.len, h.big, h.top, ha⟩
theorem Rm.byte (h : Rm w B g N at' wd l) (i : Nat) (c : UInt8) : Rm (w.setCell ⟨g, i, none⟩ (.int .u8 c.toNat)) B g N at' wd (l.set i c) :=
  ⟨h.box.putFar h.ne.symm _, box_eq (h.mem.put i _) (vals_set l i c), by simp [h.len], h.big, h.top, h.at1⟩
theorem made_any (h : Rm w B g N at' wd l) : Calls Try.prog 30 #[.pointer (some ⟨B, 0, none⟩)] w fun e w' => e = .returned (.bool true) ∧ w = w' := by
  have c0 : w.cell? ⟨B, 0, none⟩ = some (.slice (some ⟨g, 0, none⟩) N N) := h.box.read 0
  have hb : 0 < N := by have := h.big; omega
  go_enter Try.func30, Try.ntmps30
  go_wp2
  go_ret
  exact ⟨rfl, rfl⟩
theorem size_any (h : Rm w B g N at' wd l) : Calls Try.prog 12 #[.pointer (some ⟨B, 0, none⟩)] w fun e w' => e = .returned (.int .u64 N) ∧ w = w' := by
  have c0 : w.cell? ⟨B, 0, none⟩ = some (.slice (some ⟨g, 0, none⟩) N N) := h.box.read 0
  have hb := h.top
  go_enter Try.func12, Try.ntmps12
  go_wp2_with (go_at_call 30; refine (made_any h).mono ?_; rintro e w' ⟨rfl, rfl⟩)
  go_ret
  exact ⟨rfl, rfl⟩
theorem there_any (h : Rm w B g N at' wd l) (a n : Nat) : Calls Try.prog 37 #[.pointer (some ⟨B, 0, none⟩), .int .u64 a, .int .u64 n] w fun e w' => e = .returned (.bool (decide (a + n ≤ N))) ∧ w = w' := by
  have hb := h.top
  by_cases h1 : a ≤ N
  · by_cases h2 : n ≤ N - a
    · have h3 : (n : Int) ≤ (N : Int) - (a : Int) := by omega
      go_enter Try.func37, Try.ntmps37
      go_wp2_with (go_at_call 12; refine (size_any h).mono ?_; rintro e w' ⟨rfl, rfl⟩)
      go_ret
      exact ⟨bool_eq (decide_eq_true (by omega)).symm, rfl⟩
    · have h3 : ¬ (n : Int) ≤ (N : Int) - (a : Int) := by omega
      have h4 : decide ((n : Int) ≤ (N : Int) - (a : Int)) = false := decide_eq_false h3
      go_enter Try.func37, Try.ntmps37
      go_wp2_with (go_at_call 12; refine (size_any h).mono ?_; rintro e w' ⟨rfl, rfl⟩)
      go_ret
      exact ⟨bool_eq (by first | exact (decide_eq_false (by omega)).symm | exact h4.trans (decide_eq_false (by omega)).symm), rfl⟩
  · go_enter Try.func37, Try.ntmps37
    go_wp2_with (go_at_call 12; refine (size_any h).mono ?_; rintro e w' ⟨rfl, rfl⟩)
    go_ret
    exact ⟨bool_eq (decide_eq_false (by omega)).symm, rfl⟩
theorem width_any (v : Int) (w : World) : Calls Try.prog 47 #[.int .i64 v] w fun e w' => e = .returned (.bool (decide (v = 1 ∨ v = 2 ∨ v = 4 ∨ v = 8))) ∧ w = w' := by
  by_cases h : v = 1 ∨ v = 2 ∨ v = 4 ∨ v = 8
  · rw [decide_eq_true h]
    obtain rfl | rfl | rfl | rfl := h
    all_goals
      go_enter Try.func47, Try.ntmps47
      go_wp2
      go_ret
      exact ⟨rfl, rfl⟩
  · rw [decide_eq_false h]
    have h1 : (v == 1) = false := beq_eq_false_iff_ne.2 (by omega)
    have h2 : (v == 2) = false := beq_eq_false_iff_ne.2 (by omega)
    have h3 : (v == 4) = false := beq_eq_false_iff_ne.2 (by omega)
    have h4 : (v == 8) = false := beq_eq_false_iff_ne.2 (by omega)
    clear h
    go_enter Try.func47, Try.ntmps47
    go_wp2
    go_ret
    exact ⟨rfl, rfl⟩
theorem drop_any (h : Rm w B g N at' wd l) : Calls Try.prog 28 #[.pointer (some ⟨B, 0, none⟩)] w fun e w' => e = .returned (.tuple #[]) ∧ Rm w' B g N 0 0 l ∧ Touch (Own2 B g) w w' := by
  have c1 : w.cell? ⟨B, 1, none⟩ = some (.int .u64 at') := h.box.read 1
  have c2 : w.cell? ⟨B, 2, none⟩ = some (.int .i64 wd) := h.box.read 2
  have f1 := h.box.warm 1
  have f2 := h.box.warm 2
  have HH := Lib.hid (h.held 0 0 (by omega))
  go_enter Try.func28, Try.ntmps28
  go_wp2_with (go_at_call 30; refine (made_any h).mono ?_; rintro e w' ⟨rfl, rfl⟩)
  go_end0
  exact ⟨rfl, HH.out, ((Touch.refl _ w).put (.inl (.inl rfl)) _).put (.inl (.inl rfl)) _⟩
theorem held_any (h : Rm w B g N at' wd l) (a : Nat) (v : Int) : Calls Try.prog 17 #[.pointer (some ⟨B, 0, none⟩), .int .u64 a, .int .i64 v] w fun e w' => e = .returned (.bool (decide (0 < v ∧ at' = a ∧ (wd : Int) = v))) ∧ w = w' := by
  have c1 : w.cell? ⟨B, 1, none⟩ = some (.int .u64 at') := h.box.read 1
  have c2 : w.cell? ⟨B, 2, none⟩ = some (.int .i64 wd) := h.box.read 2
  by_cases h0 : 0 < v
  · go_enter Try.func17, Try.ntmps17
    go_wp2_with (go_at_call 30; refine (made_any h).mono ?_; rintro e w' ⟨rfl, rfl⟩)
    all_goals
      go_ret
      exact ⟨bool_eq (by first | exact (decide_eq_true (by omega)).symm | exact (decide_eq_false (by omega)).symm), rfl⟩
  · rw [decide_eq_false (by omega)]
    go_enter Try.func17, Try.ntmps17
    go_wp2_with (go_at_call 30; refine (made_any h).mono ?_; rintro e w' ⟨rfl, rfl⟩)
    go_ret
    exact ⟨rfl, rfl⟩
/-- May this be reserved? -/
def resB (N a : Nat) (v : Int) : Bool := decide ((v = 4 ∨ v = 8) ∧ (a : Int) % v = 0 ∧ (a : Int) + v ≤ N)
set_option maxHeartbeats 1000000 in
theorem reserve_any (h : Rm w B g N at' wd l) (a : Nat) (v : Int) (ha : a < 18446744073709551616) : Calls Try.prog 27 #[.pointer (some ⟨B, 0, none⟩), .int .u64 a, .int .i64 v] w fun e w' => e = .returned (.bool (resB N a v)) ∧ Rm w' B g N (took (resB N a v) a at') (took (resB N a v) v.toNat wd) l ∧ Touch (Own2 B g) w w' := by
  have c1 : w.cell? ⟨B, 1, none⟩ = some (.int .u64 at') := h.box.read 1
  have c2 : w.cell? ⟨B, 2, none⟩ = some (.int .i64 wd) := h.box.read 2
  have f1 := h.box.warm 1
  have f2 := h.box.warm 2
  have hN := h.top
  have HH := Lib.hid fun (v : Nat) ha => h.held a v ha
  have HM := Lib.hid h
  by_cases hv : v = 4 ∨ v = 8
  · obtain ⟨n, hn, rfl⟩ : ∃ n : Nat, (n = 4 ∨ n = 8) ∧ v = n := ⟨v.toNat, by omega, by omega⟩
    by_cases hm : a % n = 0
    · by_cases ht : a + n ≤ N
      · have hb : resB N a n = true := decide_eq_true ⟨hv, by omega, by omega⟩
        rw [hb]
        have HT := Lib.hid (fun wx (hx : Rm wx B g N at' wd l) => there_any hx a n)
        rw [decide_eq_true ht] at HT
        have HZ := Lib.hid (HH.out n (by omega))
        clear h hb hv HH ht
        obtain rfl | rfl := hn
        all_goals
          first | have hm' : (a : Int) % 8 = 0 := by omega | have hm' : (a : Int) % 4 = 0 := by omega
          clear hm
          go_enter Try.func27, Try.ntmps27
          go_wp2_with (go_at_call 37; refine (HT.out _ HM.out).mono ?_; rintro e w' ⟨rfl, rfl⟩)
          go_ret
          exact ⟨rfl, HZ.out, ((Touch.refl _ w).put (.inl (.inl rfl)) _).put (.inl (.inl rfl)) _⟩
      · have hb : resB N a n = false := decide_eq_false (by omega)
        rw [hb]
        have HT := Lib.hid (fun wx (hx : Rm wx B g N at' wd l) => there_any hx a n)
        rw [decide_eq_false ht] at HT
        clear h hb hv HH ht
        obtain rfl | rfl := hn
        all_goals
          first | have hm' : (a : Int) % 8 = 0 := by omega | have hm' : (a : Int) % 4 = 0 := by omega
          clear hm
          go_enter Try.func27, Try.ntmps27
          go_wp2_with (go_at_call 37; refine (HT.out _ HM.out).mono ?_; rintro e w' ⟨rfl, rfl⟩)
          go_ret
          exact ⟨rfl, HM.out, Touch.refl _ _⟩
    · have hb : resB N a n = false := decide_eq_false (by rintro ⟨_, h2, _⟩; exact hm (by omega))
      rw [hb]
      clear h hb hv HH
      obtain rfl | rfl := hn
      all_goals
        first | have hm' : ((a : Int) % 4 != 0) = true := bne_iff_ne.2 (by omega) | have hm' : ((a : Int) % 8 != 0) = true := bne_iff_ne.2 (by omega)
        clear hm
        go_enter Try.func27, Try.ntmps27
        go_wp2
        go_ret
        exact ⟨rfl, HM.out, Touch.refl _ _⟩
  · have hb : resB N a v = false := decide_eq_false (by rintro ⟨h2, _⟩; exact hv h2)
    rw [hb]
    have h1 : (v != 4) = true := bne_iff_ne.2 (by omega)
    have h2 : (v != 8) = true := bne_iff_ne.2 (by omega)
    clear h hb hv HH
    go_enter Try.func27, Try.ntmps27
    go_wp2
    go_ret
    exact ⟨rfl, HM.out, Touch.refl _ _⟩
/-- Does a writing end the reservation? -/
def endB (at' a n : Nat) : Bool := decide (0 < n ∧ a < at' - at' % 8 + 8 ∧ at' - at' % 8 < a + n)
theorem wrote_any (h : Rm w B g N at' wd l) (a n : Nat) (hn : a + n ≤ 65536) : Calls Try.prog 46 #[.pointer (some ⟨B, 0, none⟩), .int .u64 a, .int .u64 n] w fun e w' => e = .returned (.tuple #[]) ∧ Rm w' B g N (gone (endB at' a n) at') (gone (endB at' a n) wd) l ∧ Touch (Own2 B g) w w' := by
  have c1 : w.cell? ⟨B, 1, none⟩ = some (.int .u64 at') := h.box.read 1
  have h1 := h.at1
  have HM := Lib.hid h
  have HD := Lib.hid (fun wx (hx : Rm wx B g N at' wd l) => drop_any hx)
  have hf : ((at' : Int) - (at' : Int) % 8) = ((at' - at' % 8 : Nat) : Int) := by omega
  have hfl : at' - at' % 8 ≤ 65536 := by omega
  have hfi : (at' : Int) % 8 ≤ (at' : Int) := by omega
  generalize hF : at' - at' % 8 = F at hf hfl
  have hE : endB at' a n = decide (0 < n ∧ a < F + 8 ∧ F < a + n) := by rw [← hF]; rfl
  clear hF
  by_cases he : 0 < n ∧ a < F + 8 ∧ F < a + n
  · rw [hE, decide_eq_true he]
    obtain ⟨e1, e2, e3⟩ := he
    clear hE h
    go_enter Try.func46, Try.ntmps46
    go_wp2
    go_quiet (fail)
    go_wp2_with (go_at_call 28; refine (HD.out _ (HM.out.drawn _)).mono ?_; rintro e w' ⟨rfl, hr, ht⟩)
    go_end0
    exact ⟨rfl, hr, ((Touch.refl _ w).drawn nq).trans (ht.mono fun k hk => .inl hk)⟩
  · rw [hE, decide_eq_false he]
    clear hE h
    by_cases e1 : 0 < n
    · by_cases e2 : a < F + 8
      · have e3 : ¬ F < a + n := fun h => he ⟨e1, e2, h⟩
        clear he
        go_enter Try.func46, Try.ntmps46
        go_wp2
        go_quiet (fail)
        go_wp2
        go_end0
        exact ⟨rfl, HM.out.drawn _, (Touch.refl _ w).drawn _⟩
      · clear he
        go_enter Try.func46, Try.ntmps46
        go_wp2
        go_quiet (fail)
        go_wp2
        go_end0
        exact ⟨rfl, HM.out.drawn _, (Touch.refl _ w).drawn _⟩
    · clear he
      go_enter Try.func46, Try.ntmps46
      go_wp2
      go_quiet (fail)
      go_wp2
      go_end0
      exact ⟨rfl, HM.out.drawn _, (Touch.refl _ w).drawn _⟩
end
end Go.Proofs.Ytjdedgfbonlmkaa
