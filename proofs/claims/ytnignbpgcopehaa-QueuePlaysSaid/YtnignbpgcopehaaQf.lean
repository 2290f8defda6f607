/- The document's queue: Receive. -/
import Derived.Test.YtnignbpgcopehaaQe
set_option linter.unusedVariables false
set_option linter.unusedSimpArgs false
namespace Go.Proofs.Ytnignbpgcopehaa
open Go.RowKit
section
variable {w w' : World} {B d m cap : Nat} {T : List ByteArray} {a : Option Addr}
theorem rrecv_none (h : Rq w B d m [] a cap) : Calls Try.prog 12 #[.pointer (some ⟨B, 0, none⟩)] w fun e w' => e = .returned (.tuple #[.string ⟨#[]⟩, .int .u8 4]) ∧ w = w' := by
  have c0 : w.cell? ⟨B, 0, none⟩ = some (.slice a 0 cap) := h.box.read 0
  clear h
  go_enter Try.func12, Try.ntmps12
  go_wp2
  go_ret2
  exact ⟨rfl, rfl⟩
theorem rrecv_ok {x : ByteArray} (h : Rq w B d m (x :: T) a cap) (hT : T.length ≤ 16) (hB : ∀ b off, a = some ⟨b, off, none⟩ → b ≠ B) : Calls Try.prog 12 #[.pointer (some ⟨B, 0, none⟩)] w fun e w' => e = .returned (.tuple #[.string x, .int .u8 0]) ∧ ∃ a' cap', Rq w' B d m T a' cap' ∧ Only B w w' := by
  obtain ⟨b, off, rfl, hb, hc⟩ := h.strs 0 x rfl
  have hne := hB b off rfl
  have hcap := h.hc
  rw [List.length_cons] at hcap
  have hbx := h.box
  rw [List.length_cons] at hbx
  have HB := Lib.hid hbx
  have HR := Lib.hid h.strs
  have c0 : w.cell? ⟨B, 0, none⟩ = some (.slice (some ⟨b, off, none⟩) (T.length + 1) cap) := hbx.read 0
  have f0 := hbx.warm 0
  have e0 : w.cell? ⟨b, off, none⟩ = some (.string x) := hc
  clear h hbx hB hc
  go_enter Try.func12, Try.ntmps12
  go_wp2
  case inl =>
    go_ret2
    obtain rfl : T = [] := List.eq_nil_of_length_eq_zero (by omega)
    exact ⟨rfl, ⟨_, _, ⟨box_eq (HB.out.put 0 _) rfl, fun j x hj => by simp at hj, Nat.le_refl _⟩⟩, (Only.refl B w).put (.inl rfl) _⟩
  case inr =>
    go_ret2
    refine ⟨rfl, ⟨_, _, ⟨box_eq (HB.out.put 0 _) rfl, fun j y hj => ?_, by omega⟩⟩, (Only.refl B w).put (.inl rfl) _⟩
    obtain ⟨b', off', e, hb', hc'⟩ := HR.out (j + 1) y (by simpa using hj)
    cases e
    refine ⟨b, off + 1, rfl, by simpa using hb', ?_⟩
    rw [World.cell?_setCell_other _ _ _ _ (by intro h; simp only [Addr.mk.injEq] at h; omega), Nat.add_assoc, Nat.add_comm 1 j]
    exact hc'
end
end Go.Proofs.Ytnignbpgcopehaa
