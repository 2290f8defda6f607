/- The document's source: what it is in memory; what its methods answer. -/
import Derived.Test.YtddacegeepgmmaaI
set_option linter.unusedVariables false
set_option linter.unusedSimpArgs false
namespace Go.Proofs.Ytddacegeepgmmaa
open Go.RowKit

/-- The document's source of a text, so much of it taken. -/
structure Ref (w : World) (Y : Nat) (s : ByteArray) (p : Nat) (torn : Bool) : Prop where
  box : Box w Y 37 #[.string s, .int .i64 p, .bool torn]
  le : p ≤ s.size
section
variable {w : World} {Y : Nat} {s : ByteArray} {p : Nat}
set_option maxHeartbeats 1000000 in
theorem rtext_okN (h : Ref w Y s p false) (hs : s.size ≤ 4611686018427387904) (n : Nat) (hn : p + n ≤ s.size) : Calls Try.prog 14 #[.pointer (some ⟨Y, 0, none⟩), .int .i64 n] w fun e w' => e = .returned (.string (s.extract p (p + n))) ∧ Ref w' Y s (p + n) false ∧ Only Y w w' := by
  have c0 : w.cell? ⟨Y, 0, none⟩ = some (.string s) := h.box.read 0
  have c1 : w.cell? ⟨Y, 1, none⟩ = some (.int .i64 p) := h.box.read 1
  have c2 : w.cell? ⟨Y, 2, none⟩ = some (.bool false) := h.box.read 2
  have f1 : w.frozen? ⟨Y, 1, none⟩ = false := h.box.warm 1
  have f2 : w.frozen? ⟨Y, 2, none⟩ = false := h.box.warm 2
  have g1 : (0 : Int) ≤ (p : Int) := Int.natCast_nonneg _
  have g2 : (p : Int) ≤ (p : Int) + (n : Nat) := by omega
  have g3 : (p : Int) + (n : Nat) ≤ (s.size : Int) := by omega
  go_enter Try.func14, Try.ntmps14
  go_wp2
  go_quiet (fail)
  go_wp2
  have r1 : ∀ wx : World, (Instr.slice 9 (.string s) (some (.int .i64 (p : Int))) (some (.int .i64 ((p : Int) + (n : Int)))) none).run Try.prog wx = .ok (.string (s.extract p (p + n))) wx := fun wx => by
    have g4 : (0 : Int) ≤ ((p : Int) + (n : Int)) := by omega
    have g5 : ((p : Int) + (n : Int)) ≤ (s.size : Int) := by omega
    have g6 : (p : Int) ≤ ((p : Int) + (n : Int)) := by omega
    have e1 : (((p : Int) + (n : Int)) : Int).toNat = p + n := by omega
    rw [run_slice_string_if (h := Try.underlying9), if_pos ⟨g4, g5⟩, if_pos ⟨g1, g6⟩, e1]; simp
  have hb : Box ((w.drewN nq).setCell ⟨Y, 1, none⟩ (.int .i64 ((p : Int) + (n : Int)))) Y 37 #[.string s, .int .i64 ((p : Int) + (n : Int)), .bool false] := box_eq ((h.box.drawn nq).put 1 _) rfl
  have ho : Only Y w ((w.drewN nq).setCell ⟨Y, 1, none⟩ (.int .i64 ((p : Int) + (n : Int)))) := ((Only.refl Y w).drawn nq).put (.inl rfl) _
  generalize ((w.drewN nq).setCell ⟨Y, 1, none⟩ (.int .i64 ((p : Int) + (n : Int)))) = W at hb ho ⊢
  have d0 : W.cell? ⟨Y, 0, none⟩ = some (.string s) := hb.read 0
  have d1 : W.cell? ⟨Y, 1, none⟩ = some (.int .i64 ((p : Int) + (n : Int))) := hb.read 1
  clear c0 c1 c2 f1 f2
  go_quiet (fail)
  go_wp2
  go_ret
  exact ⟨rfl, ⟨hb.drawn _, by omega⟩, ho.drawn _⟩
set_option maxHeartbeats 1000000 in
theorem rtext_okV (h : Ref w Y s p false) (hs : s.size ≤ 4611686018427387904) (v : Int) (hv : v < 0) (hn : p + 0 ≤ s.size) : Calls Try.prog 14 #[.pointer (some ⟨Y, 0, none⟩), .int .i64 v] w fun e w' => e = .returned (.string (s.extract p (p + 0))) ∧ Ref w' Y s (p + 0) false ∧ Only Y w w' := by
  have c0 : w.cell? ⟨Y, 0, none⟩ = some (.string s) := h.box.read 0
  have c1 : w.cell? ⟨Y, 1, none⟩ = some (.int .i64 p) := h.box.read 1
  have c2 : w.cell? ⟨Y, 2, none⟩ = some (.bool false) := h.box.read 2
  have f1 : w.frozen? ⟨Y, 1, none⟩ = false := h.box.warm 1
  have f2 : w.frozen? ⟨Y, 2, none⟩ = false := h.box.warm 2
  have g1 : (0 : Int) ≤ (p : Int) := Int.natCast_nonneg _
  have g2 : (p : Int) ≤ (p : Int) + (0 : Nat) := by omega
  have g3 : (p : Int) + (0 : Nat) ≤ (s.size : Int) := by omega
  go_enter Try.func14, Try.ntmps14
  go_wp2
  go_quiet (fail)
  go_wp2
  have r1 : ∀ wx : World, (Instr.slice 9 (.string s) (some (.int .i64 (p : Int))) (some (.int .i64 (p : Int))) none).run Try.prog wx = .ok (.string (s.extract p (p + 0))) wx := fun wx => by
    have g4 : (0 : Int) ≤ (p : Int) := by omega
    have g5 : (p : Int) ≤ (s.size : Int) := by omega
    have g6 : (p : Int) ≤ (p : Int) := by omega
    have e1 : ((p : Int) : Int).toNat = p + 0 := by omega
    rw [run_slice_string_if (h := Try.underlying9), if_pos ⟨g4, g5⟩, if_pos ⟨g1, g6⟩, e1]; simp
  have hb : Box ((w.drewN nq).setCell ⟨Y, 1, none⟩ (.int .i64 (p : Int))) Y 37 #[.string s, .int .i64 (p : Int), .bool false] := box_eq ((h.box.drawn nq).put 1 _) rfl
  have ho : Only Y w ((w.drewN nq).setCell ⟨Y, 1, none⟩ (.int .i64 (p : Int))) := ((Only.refl Y w).drawn nq).put (.inl rfl) _
  generalize ((w.drewN nq).setCell ⟨Y, 1, none⟩ (.int .i64 (p : Int))) = W at hb ho ⊢
  have d0 : W.cell? ⟨Y, 0, none⟩ = some (.string s) := hb.read 0
  have d1 : W.cell? ⟨Y, 1, none⟩ = some (.int .i64 (p : Int)) := hb.read 1
  clear c0 c1 c2 f1 f2
  go_quiet (fail)
  go_wp2
  go_ret
  exact ⟨congrArg (fun b => Ending.returned (.string b)) (show ByteArray.empty = s.extract p (p + 0) by apply ByteArray.ext; simp [ByteArray.data_extract]), ⟨hb.drawn _, by omega⟩, ho.drawn _⟩
set_option maxHeartbeats 1000000 in
theorem rtext_tear (h : Ref w Y s p false) (hs : s.size ≤ 4611686018427387904) (n : Nat) (hn : s.size < p + n) : Calls Try.prog 14 #[.pointer (some ⟨Y, 0, none⟩), .int .i64 n] w fun e w' => e = .returned (.string ByteArray.empty) ∧ Ref w' Y s p true ∧ Only Y w w' := by
  have c0 : w.cell? ⟨Y, 0, none⟩ = some (.string s) := h.box.read 0
  have c1 : w.cell? ⟨Y, 1, none⟩ = some (.int .i64 p) := h.box.read 1
  have c2 : w.cell? ⟨Y, 2, none⟩ = some (.bool false) := h.box.read 2
  have f1 : w.frozen? ⟨Y, 1, none⟩ = false := h.box.warm 1
  have f2 : w.frozen? ⟨Y, 2, none⟩ = false := h.box.warm 2
  have hp := h.le
  go_enter Try.func14, Try.ntmps14
  go_wp2
  go_quiet (fail)
  go_wp2
  go_ret
  exact ⟨rfl, ⟨box_eq ((h.box.drawn nq).put 2 _) rfl, h.le⟩, ((Only.refl Y w).drawn nq).put (.inl rfl) _⟩
set_option maxHeartbeats 1000000 in
theorem rtext_torn1 (h : Ref w Y s p true) (hs : s.size ≤ 4611686018427387904) (n : Nat) (hn : s.size < p + n) : Calls Try.prog 14 #[.pointer (some ⟨Y, 0, none⟩), .int .i64 n] w fun e w' => e = .returned (.string ByteArray.empty) ∧ Ref w' Y s p true ∧ Only Y w w' := by
  have c0 : w.cell? ⟨Y, 0, none⟩ = some (.string s) := h.box.read 0
  have c1 : w.cell? ⟨Y, 1, none⟩ = some (.int .i64 p) := h.box.read 1
  have c2 : w.cell? ⟨Y, 2, none⟩ = some (.bool true) := h.box.read 2
  have f1 : w.frozen? ⟨Y, 1, none⟩ = false := h.box.warm 1
  have f2 : w.frozen? ⟨Y, 2, none⟩ = false := h.box.warm 2
  have hp := h.le
  go_enter Try.func14, Try.ntmps14
  go_wp2
  go_quiet (fail)
  go_wp2
  go_ret
  exact ⟨rfl, ⟨box_eq ((h.box.drawn nq).put 2 _) rfl, h.le⟩, ((Only.refl Y w).drawn nq).put (.inl rfl) _⟩
set_option maxHeartbeats 1000000 in
theorem rtext_torn2 (h : Ref w Y s p true) (hs : s.size ≤ 4611686018427387904) (n : Nat) (hn : p + n ≤ s.size) : Calls Try.prog 14 #[.pointer (some ⟨Y, 0, none⟩), .int .i64 n] w fun e w' => e = .returned (.string ByteArray.empty) ∧ Ref w' Y s p true ∧ Only Y w w' := by
  have c0 : w.cell? ⟨Y, 0, none⟩ = some (.string s) := h.box.read 0
  have c1 : w.cell? ⟨Y, 1, none⟩ = some (.int .i64 p) := h.box.read 1
  have c2 : w.cell? ⟨Y, 2, none⟩ = some (.bool true) := h.box.read 2
  have f1 : w.frozen? ⟨Y, 1, none⟩ = false := h.box.warm 1
  have f2 : w.frozen? ⟨Y, 2, none⟩ = false := h.box.warm 2
  have hp := h.le
  go_enter Try.func14, Try.ntmps14
  go_wp2
  go_quiet (fail)
  go_wp2
  go_ret
  exact ⟨rfl, ⟨h.box.drawn nq, h.le⟩, (Only.refl Y w).drawn nq⟩
set_option maxHeartbeats 1000000 in
theorem rtext_torn3 (h : Ref w Y s p true) (hs : s.size ≤ 4611686018427387904) (v : Int) (hv : v < 0) : Calls Try.prog 14 #[.pointer (some ⟨Y, 0, none⟩), .int .i64 v] w fun e w' => e = .returned (.string ByteArray.empty) ∧ Ref w' Y s p true ∧ Only Y w w' := by
  have c0 : w.cell? ⟨Y, 0, none⟩ = some (.string s) := h.box.read 0
  have c1 : w.cell? ⟨Y, 1, none⟩ = some (.int .i64 p) := h.box.read 1
  have c2 : w.cell? ⟨Y, 2, none⟩ = some (.bool true) := h.box.read 2
  have f1 : w.frozen? ⟨Y, 1, none⟩ = false := h.box.warm 1
  have f2 : w.frozen? ⟨Y, 2, none⟩ = false := h.box.warm 2
  have hp := h.le
  go_enter Try.func14, Try.ntmps14
  go_wp2
  go_quiet (fail)
  go_wp2
  go_ret
  exact ⟨rfl, ⟨h.box.drawn nq, h.le⟩, (Only.refl Y w).drawn nq⟩
theorem rtext_any {torn : Bool} (h : Ref w Y s p torn) (hs : s.size ≤ 4611686018427387904) (v : Int) : Calls Try.prog 14 #[.pointer (some ⟨Y, 0, none⟩), .int .i64 v] w fun e w' => e = .returned (.string (textS s p v.toNat torn)) ∧ Ref w' Y s (textP s p v.toNat torn) (bad s p v.toNat torn) ∧ Only Y w w' := by
  have hp := h.le
  by_cases hv : v < 0
  · have e : v.toNat = 0 := by omega
    cases torn
    · have eb : bad s p v.toNat false = false := by simp [bad]; omega
      rw [textS, textP, eb, e]
      exact rtext_okV h hs v hv (by omega)
    · exact rtext_torn3 h hs v hv
  · obtain ⟨n, rfl⟩ : ∃ n : Nat, v = n := ⟨v.toNat, by omega⟩
    rw [Int.toNat_natCast]
    by_cases hn : s.size < p + n
    · cases torn
      · have eb : bad s p n false = true := by simp [bad]; omega
        rw [textS, textP, eb]
        exact rtext_tear h hs n hn
      · exact rtext_torn1 h hs n hn
    · cases torn
      · have eb : bad s p n false = false := by simp [bad]; omega
        rw [textS, textP, eb]
        exact rtext_okN h hs n (by omega)
      · exact rtext_torn2 h hs n (by omega)
theorem text_size (s : ByteArray) (p n : Nat) (torn : Bool) (hn : n ≤ 8) : (textS s p n torn).size ≤ 8 := by
  unfold textS
  cases bad s p n torn
  · show (s.extract p (p + n)).size ≤ 8
    rw [ByteArray.size_extract]; omega
  · exact Nat.zero_le _
set_option maxHeartbeats 1000000 in
theorem rtake_any {torn : Bool} (h : Ref w Y s p torn) (hs : s.size ≤ 4611686018427387904) (v : Int) : Calls Try.prog 16 #[.pointer (some ⟨Y, 0, none⟩), .int .i64 v] w fun e w' => e = .returned (.int .u64 (numL (textS s p (wid v) torn).data.toList)) ∧ Ref w' Y s (textP s p (wid v) torn) (bad s p (wid v) torn) ∧ Only Y w w' := by
  have hw := wid_bd v
  have ht := rtext_any h hs (wid v : Int)
  rw [Int.toNat_natCast] at ht
  have hz := text_size s p (wid v) torn hw.2
  generalize textS s p (wid v) torn = z at ht hz
  have HT := Lib.hid ht
  clear ht
  go_enter Try.func16, Try.ntmps16
  go_wp2_with (first | (go_at_call 24; refine (width_any v _).mono ?_; rintro e w' ⟨rfl, rfl⟩) | (go_at_call 14; refine HT.out.mono ?_; rintro e w' ⟨rfl, hsrc, honly⟩) | (go_at_call 28; refine (number_any z hz _).mono ?_; rintro e w' ⟨rfl, rfl⟩))
  go_ret
  exact ⟨rfl, hsrc, honly⟩
theorem rfail_any {torn : Bool} (h : Ref w Y s p torn) : Calls Try.prog 20 #[.pointer (some ⟨Y, 0, none⟩)] w fun e w' => e = .returned (.int .i64 (failN torn)) ∧ w' = w := by
  have c2 : w.cell? ⟨Y, 2, none⟩ = some (.bool torn) := h.box.read 2
  cases torn
  all_goals
    go_enter Try.func20, Try.ntmps20
    go_wp2
    go_ret
    exact ⟨rfl, rfl⟩
theorem rfail_false (h : Ref w Y s p false) : Calls Try.prog 20 #[.pointer (some ⟨Y, 0, none⟩)] w fun e w' => e = .returned (.int .i64 0) ∧ w' = w := rfail_any h
theorem rfail_true (h : Ref w Y s p true) : Calls Try.prog 20 #[.pointer (some ⟨Y, 0, none⟩)] w fun e w' => e = .returned (.int .i64 4) ∧ w' = w := rfail_any h
set_option maxHeartbeats 1000000 in
theorem rend_any {torn : Bool} (h : Ref w Y s p torn) (hs : s.size ≤ 4611686018427387904) : Calls Try.prog 22 #[.pointer (some ⟨Y, 0, none⟩)] w fun e w' => e = .returned (.int .i64 (endN torn (s.size - p : Int))) ∧ ∃ n, w' = w.drewN n := by
  have c0 : w.cell? ⟨Y, 0, none⟩ = some (.string s) := h.box.read 0
  have c1 : w.cell? ⟨Y, 1, none⟩ = some (.int .i64 p) := h.box.read 1
  have hd : ∀ n, Ref (w.drewN n) Y s p torn := fun n => ⟨h.box.drawn n, h.le⟩
  cases torn
  · by_cases hl : p < s.size
    · have hl2 := h.le
      go_enter Try.func22, Try.ntmps22
      go_wp2
      go_quiet ((go_at_call 20; exact Calls.quiet_of_same (rfail_false (hd _))))
      go_wp2_with (go_at_call 20; refine (rfail_false (hd _)).mono ?_; rintro e w' ⟨rfl, rfl⟩)
      go_ret
      exact ⟨ret_eq (by unfold endN; (repeat' split) <;> simp_all <;> omega), nq, rfl⟩
    · have hl2 := h.le
      go_enter Try.func22, Try.ntmps22
      go_wp2
      go_quiet ((go_at_call 20; exact Calls.quiet_of_same (rfail_false (hd _))))
      go_wp2_with (go_at_call 20; refine (rfail_false (hd _)).mono ?_; rintro e w' ⟨rfl, rfl⟩)
      go_ret
      exact ⟨ret_eq (by unfold endN; (repeat' split) <;> simp_all <;> omega), nq, rfl⟩
  · go_enter Try.func22, Try.ntmps22
    go_wp2
    go_quiet ((go_at_call 20; exact Calls.quiet_of_same (rfail_true (hd _))))
    go_wp2_with (go_at_call 20; refine (rfail_true (hd _)).mono ?_; rintro e w' ⟨rfl, rfl⟩)
    go_ret
    exact ⟨rfl, nq, rfl⟩
end
end Go.Proofs.Ytddacegeepgmmaa
