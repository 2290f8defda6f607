/- The document's line: what it is told, and its Dump. -/
import Derived.Test.YtagcmajiomhbdaaM
set_option linter.unusedVariables false
set_option linter.unusedSimpArgs false
namespace Go.Proofs.Ytagcmajiomhbdaa
open Go.RowKit
section
variable {w w' : World} {C : Nat} {s s' : US}
set_option maxHeartbeats 1000000 in
theorem rinput_any (h : Rf w C s) (c : UInt8) (hq : s.q.length ≤ 16) : Calls Try.prog 26 #[.pointer (some ⟨C, 0, none⟩), .int .u8 c.toNat] w fun e w' => e = .returned (.bool (decide (s.q.length ≠ 16))) ∧ Rz C (s.inp c) w w' := by
  have c9 : w.cell? ⟨C, 9, none⟩ = some (.string (str s.q)) := Box.read h 9
  have c7 : w.cell? ⟨C, 7, none⟩ = some (.bool s.ov) := Box.read h 7
  have f9 := Box.warm h 9
  have f7 := Box.warm h 7
  have hsz : ((str s.q).size : Int) = (s.q.length : Int) := by rw [str_size]
  by_cases h16 : s.q.length = 16
  · have e1 : s.inp c = { s with ov := true } := if_pos h16
    rw [e1]
    have HO := Lib.hid (Rz.of h 7 (.bool true) { s with ov := true } (by kernel_rfl))
    have hsz2 : ((str s.q).size : Int) = 16 := by rw [hsz, h16]; rfl
    rw [h16]
    clear h e1 h16 hsz hq
    go_enter Try.func26, Try.ntmps26
    go_wp2
    go_ret
    exact ⟨rfl, HO.out⟩
  · have e1 : s.inp c = { s with q := s.q ++ [c] } := if_neg h16
    rw [e1, decide_eq_true h16]
    have hb : ((s.q.length : Int) == 16) = false := beq_eq_false_iff_ne.2 (by omega)
    have hadd := str_snoc s.q c
    have h63 : ¬ 9223372036854775807 < (str s.q).size + 1 := by rw [str_size]; omega
    have r1 : (convert 41 9 (.slice (some ⟨w.heap.size, 0, none⟩) 1 1)).run Try.prog (w.alloc (.cells #[.int .u8 c.toNat] 5)).drew = .ok (.string ⟨#[c]⟩) (w.alloc (.cells #[.int .u8 c.toNat] 5)).drew := conv_one c w.drew
    have g9 : ∀ o : Obj, (w.alloc o).drew.cell? ⟨C, 9, none⟩ = some (.string (str s.q)) := fun o => Box.read (Box.more h o) 9
    have i9 : ∀ o : Obj, (w.alloc o).drew.frozen? ⟨C, 9, none⟩ = false := fun o => Box.warm (Box.more h o) 9
    have HZ : Hid (∀ wx, Rf wx C s → Touch (fun b => b = C) w wx → Rz C { s with q := s.q ++ [c] } w (wx.setCell ⟨C, 9, none⟩ (.string (str (s.q ++ [c]))))) := Lib.hid fun wx hx ht => ⟨hx.put 9 _ _ (by kernel_rfl), ht.put (.inl rfl) _⟩
    have HR := Lib.hid h
    clear h e1 h16
    go_enter Try.func26, Try.ntmps26
    go_wp2
    go_region
    go_wp2
    go_ret
    refine ⟨rfl, ?_⟩
    exact HZ.out ((w.alloc (.cells #[.int .u8 c.toNat] 5)).drew) (Box.more HR.out _) ((Touch.refl (fun b => b = C) w).more _).drawn1
def Cel (w' : World) (C : Nat) (s : US) : Prop := w'.cell? ⟨C, 0, none⟩ = some (.int .i64 s.ier) ∧ w'.cell? ⟨C, 1, none⟩ = some (.int .i64 s.lcr) ∧ w'.cell? ⟨C, 2, none⟩ = some (.int .i64 s.mcr) ∧ w'.cell? ⟨C, 3, none⟩ = some (.int .i64 s.scr) ∧ w'.cell? ⟨C, 4, none⟩ = some (.int .i64 s.d0) ∧ w'.cell? ⟨C, 5, none⟩ = some (.int .i64 s.d1) ∧ w'.cell? ⟨C, 6, none⟩ = some (.bool s.en) ∧ w'.cell? ⟨C, 7, none⟩ = some (.bool s.ov) ∧ w'.cell? ⟨C, 8, none⟩ = some (.bool s.dn) ∧ w'.cell? ⟨C, 9, none⟩ = some (.string (str s.q))
theorem cel_of (h : Rf w C s) : Cel w C s := ⟨Box.read h 0, Box.read h 1, Box.read h 2, Box.read h 3, Box.read h 4, Box.read h 5, Box.read h 6, Box.read h 7, Box.read h 8, Box.read h 9⟩
theorem Rf.more (h : Rf w C s) (o : Obj) : Rf (w.alloc o) C s := Box.more h o
set_option maxHeartbeats 4000000 in
theorem rdump_any (h : Rf w C s) (ok : s.ok) : Calls Try.prog 15 #[.pointer (some ⟨C, 0, none⟩)] w fun e w' => e = .returned (.string (str (s.regs ++ s.q))) ∧ Below w.heap.size w w' := by
  have b0 := ok.ier
  have w0 : IntKind.u8.wrap (s.ier : Int) = (s.ier : Int) := by show (s.ier : Int) % 256 = _; omega
  have w1 : IntKind.u8.wrap (s.lcr : Int) = (s.lcr : Int) := by have := ok.lcr; show (s.lcr : Int) % 256 = _; omega
  have w2 : IntKind.u8.wrap (s.mcr : Int) = (s.mcr : Int) := by have := ok.mcr; show (s.mcr : Int) % 256 = _; omega
  have w3 : IntKind.u8.wrap (s.scr : Int) = (s.scr : Int) := by have := ok.scr; show (s.scr : Int) % 256 = _; omega
  have w4 : IntKind.u8.wrap (s.d0 : Int) = (s.d0 : Int) := by have := ok.d0; show (s.d0 : Int) % 256 = _; omega
  have w5 : IntKind.u8.wrap (s.d1 : Int) = (s.d1 : Int) := by have := ok.d1; show (s.d1 : Int) % 256 = _; omega
  have hadd : str s.regs ++ str s.q = str (s.regs ++ s.q) := str_app _ _
  have h63 : ¬ 9223372036854775807 < (str s.regs).size + (str s.q).size := by have := ok.q; rw [str_size, str_size]; simp [US.regs]; omega
  have r1 : ∀ W : World, (convert 41 9 (.slice (some ⟨W.heap.size, 0, none⟩) 9 9)).run Try.prog (W.alloc (.cells #[.int .u8 s.ier, .int .u8 (oneN s.en), .int .u8 s.lcr, .int .u8 s.mcr, .int .u8 s.scr, .int .u8 s.d0, .int .u8 s.d1, .int .u8 (oneN s.ov), .int .u8 (oneN s.dn)] 5)) = .ok (.string (str s.regs)) (W.alloc (.cells #[.int .u8 s.ier, .int .u8 (oneN s.en), .int .u8 s.lcr, .int .u8 s.mcr, .int .u8 s.scr, .int .u8 s.d0, .int .u8 s.d1, .int .u8 (oneN s.ov), .int .u8 (oneN s.dn)] 5)) := fun W => by
    refine conv_lane (v := .slice (some ⟨W.heap.size, 0, none⟩) 9 9) (w := W.alloc (.cells #[.int .u8 s.ier, .int .u8 (oneN s.en), .int .u8 s.lcr, .int .u8 s.mcr, .int .u8 s.scr, .int .u8 s.d0, .int .u8 s.d1, .int .u8 (oneN s.ov), .int .u8 (oneN s.dn)] 5)) (acc := s.regs) ?_
    rw [vals_regs ok]; exact Lane.lit W 5 (regsV s) (by simp [regsV, maxLen])
  have r2 : (convert 41 9 (.slice (some ⟨w.heap.size, 0, none⟩) 9 9)).run Try.prog (w.alloc (.cells #[.int .u8 s.ier, .int .u8 (oneN s.en), .int .u8 s.lcr, .int .u8 s.mcr, .int .u8 s.scr, .int .u8 s.d0, .int .u8 s.d1, .int .u8 (oneN s.ov), .int .u8 (oneN s.dn)] 5)).drew = .ok (.string (str s.regs)) (w.alloc (.cells #[.int .u8 s.ier, .int .u8 (oneN s.en), .int .u8 s.lcr, .int .u8 s.mcr, .int .u8 s.scr, .int .u8 s.d0, .int .u8 s.d1, .int .u8 (oneN s.ov), .int .u8 (oneN s.dn)] 5)).drew := r1 w.drew
  clear r1
  have HR : Hid (Rf w.drew C s) := Lib.hid (Box.drawn1 h)
  have HB : Hid (Below w.heap.size w (w.drew.alloc (.cells #[.int .u8 s.ier, .int .u8 (oneN s.en), .int .u8 s.lcr, .int .u8 s.mcr, .int .u8 s.scr, .int .u8 s.d0, .int .u8 s.d1, .int .u8 (oneN s.ov), .int .u8 (oneN s.dn)] 5))) := Lib.hid ((below_drewN (Below.refl w.heap.size w) 1).alloc (Nat.le_refl _) _)
  clear h ok
  go_enter Try.func15, Try.ntmps15
  go_wp2
  refine wp_region_calm (fun w' => w'.cell? ⟨C, 0, none⟩ = some (.int .i64 s.ier) ∧ w'.cell? ⟨C, 1, none⟩ = some (.int .i64 s.lcr) ∧ w'.cell? ⟨C, 2, none⟩ = some (.int .i64 s.mcr) ∧ w'.cell? ⟨C, 3, none⟩ = some (.int .i64 s.scr) ∧ w'.cell? ⟨C, 4, none⟩ = some (.int .i64 s.d0) ∧ w'.cell? ⟨C, 5, none⟩ = some (.int .i64 s.d1) ∧ w'.cell? ⟨C, 6, none⟩ = some (.bool s.en) ∧ w'.cell? ⟨C, 7, none⟩ = some (.bool s.ov) ∧ w'.cell? ⟨C, 8, none⟩ = some (.bool s.dn) ∧ w'.cell? ⟨C, 9, none⟩ = some (.string (str s.q)))
    (.e 0 :: .e 0 :: .e 0 :: .e 0 :: .e 0 :: .e 0 :: .e 0 :: .e 0 :: .e 0 :: .e 1 :: .e 1 :: .e 1 :: .e 1 :: .e 1 :: .e 1 :: .e 1 :: .e 1 :: .e 1 :: .e 1 :: .e 1 :: .e 1 :: .e 1 :: .e 1 :: .e 1 :: .e 1 :: .e 1 :: .e 1 :: .e 1 :: .e 1 :: .e 1 :: .e 1 :: .e 1 :: .e 1 :: .e 1 :: .e 1 :: .e 1 :: .e 1 :: .e 1 :: .e 2 :: .e 2 :: .e 2 :: .e 2 :: .e 5 :: .e 5 :: .e 5 :: .e 5 :: .l 0 :: .l 0 :: .l 0 :: .l 0 :: .l 0 :: .e 0 :: .e 0 :: []) (by kernel_rfl) (by kernel_rfl) (by kernel_rfl) (by kernel_rfl) ?_
  have hHeld := cel_of HR.out
  unfold Cel at hHeld
  repeat (first
    | (refine mv_take0 (v := ?_) (by rfl) hHeld ?_ ?_; rotate_left 1; (focus (intro w hSw; (try dsimp only at hSw); obtain ⟨g0, g1, g2, g3, g4, g5, g6, g7, g8, g9⟩ := hSw; go_simp; (try with_reducible rfl))); (try simp only [Act.put, List.setIfInBounds_toArray, List.set_cons_zero, List.set_cons_succ]))
    | (refine mv_take1 (v := ?_) (by rfl) hHeld ?_ ?_; rotate_left 1; (focus (intro w hSw; (try dsimp only at hSw); obtain ⟨g0, g1, g2, g3, g4, g5, g6, g7, g8, g9⟩ := hSw; go_simp; (try with_reducible rfl))); (try simp only [Act.put, List.setIfInBounds_toArray, List.set_cons_zero, List.set_cons_succ]))
    | (refine mv_take2 (v := ?_) (by rfl) hHeld ?_ ?_; rotate_left 1; (focus (intro w hSw; (try dsimp only at hSw); obtain ⟨g0, g1, g2, g3, g4, g5, g6, g7, g8, g9⟩ := hSw; go_simp; (try with_reducible rfl))); (try simp only [Act.put, List.setIfInBounds_toArray, List.set_cons_zero, List.set_cons_succ]))
    | (refine mv_take5 (v := ?_) (by rfl) hHeld ?_ ?_; rotate_left 1; (focus (intro w hSw; (try dsimp only at hSw); obtain ⟨g0, g1, g2, g3, g4, g5, g6, g7, g8, g9⟩ := hSw; go_simp; (try with_reducible rfl))); (try simp only [Act.put, List.setIfInBounds_toArray, List.set_cons_zero, List.set_cons_succ]))
    | (refine mv_loud0 (by rfl) (fun K hK => ?_)
       go_simp
       first
         | (go_at_call 30; refine (rone_any _ _).mono ?_; rintro e w5 ⟨rfl, rfl⟩; refine hK.out _ _ hHeld ?_)
         | (refine hK.out _ _ (cel_of (HR.out.more _)) ?_; clear hHeld; have hHeld := cel_of (HR.out.more (.cells #[.int .u8 s.ier, .int .u8 (oneN s.en), .int .u8 s.lcr, .int .u8 s.mcr, .int .u8 s.scr, .int .u8 s.d0, .int .u8 s.d1, .int .u8 (oneN s.ov), .int .u8 (oneN s.dn)] 5)); unfold Cel at hHeld)
         | (refine hK.out _ _ hHeld ?_)
       clear hK K
       (try simp only [Act.put, List.setIfInBounds_toArray, List.set_cons_zero, List.set_cons_succ])))
  refine mv_calm ?_
  go_wp2
  go_ret
  exact ⟨rfl, HB.out⟩
end
end Go.Proofs.Ytagcmajiomhbdaa
