/- What Write and Read of a sampling channel do. -/
import Derived.Test.YtgicehhenahfpaaDoorB
namespace Go.Proofs.YtgicehhenahfpaaDoor
open Go.RowKit

/-- The marks of the first k ends are set. -/
def upTo (F : Nat → Bool) (k : Nat) (i : Nat) : Bool := decide (i < k) || F i

theorem upTo_zero (F : Nat → Bool) : upTo F 0 = F := by
  funext i
  simp [upTo]
theorem upTo_succ (F : Nat → Bool) (k : Nat) : turn (upTo F k) k true = upTo F (k + 1) := by
  funext i
  unfold turn upTo
  by_cases h : i = k
  · simp [h]
  · have : decide (i < k) = decide (i < k + 1) := by
      rw [decide_eq_decide]
      omega
    simp [h, this]

section
variable {m v n t : Int} {has : Bool} {s : ByteArray} {F : Nat → Bool} {B : Nat} {w : World}

set_option maxHeartbeats 400000 in
theorem write_long (hb : Box w B 56 (chan m v n has t s F)) (a : Int) (x : ByteArray) (hx : m < x.size) :
    Calls Tryd.prog 11 #[.pointer (some ⟨B, 0, none⟩), .int .u64 a, .string x] w fun e w' => e = .returned (.int .i64 5) ∧ w = w' := by
  have h1 : w.cell? ⟨B, 1, none⟩ = some (.int .i64 m) := hb.read 1
  go_enter Tryd.func11, Tryd.ntmps11
  go_wp2_with (go_at_call 22; refine (isMade_any hb).mono ?_; rintro e w' ⟨rfl, rfl⟩)
  go_ret
  exact ⟨rfl, rfl⟩

set_option maxHeartbeats 1000000 in
theorem write_ok (hb : Box w B 56 (chan m v n has t s F)) (a : Int) (x : ByteArray) (hx : x.size ≤ m) (h0 : 0 ≤ n) (h16 : n ≤ 16) :
    Calls Tryd.prog 11 #[.pointer (some ⟨B, 0, none⟩), .int .u64 a, .string x] w fun e w' => e = .returned (.int .i64 0) ∧ Box w' B 56 (chan m v n true a x (upTo F n.toNat)) ∧ Only B w w' := by
  have h1 : w.cell? ⟨B, 1, none⟩ = some (.int .i64 m) := hb.read 1
  have h3 : w.cell? ⟨B, 3, none⟩ = some (.int .i64 n) := hb.read 3
  have c4 : w.cell? ⟨B, 4, none⟩ = some (.bool has) := hb.read 4
  have c5 : w.cell? ⟨B, 5, none⟩ = some (.int .u64 t) := hb.read 5
  have c6 : w.cell? ⟨B, 6, none⟩ = some (.string s) := hb.read 6
  have f4 := hb.warm 4
  have f5 := hb.warm 5
  have f6 := hb.warm 6
  have HP : Hid (∀ k : Nat, Box (((w.setCell ⟨B, 4, none⟩ (.bool true)).setCell ⟨B, 5, none⟩ (.int .u64 a)).setCell ⟨B, 6, none⟩ (.string x)) B 56 (chan m v n true a x F) ∧
      Only B w (((w.setCell ⟨B, 4, none⟩ (.bool true)).setCell ⟨B, 5, none⟩ (.int .u64 a)).setCell ⟨B, 6, none⟩ (.string x))) := fun _ =>
    ⟨((hb.put 4 (.bool true)).put 5 (.int .u64 a)).put 6 (.string x), (((Only.refl _ _).put (by left; rfl) _).put (by left; rfl) _).put (by left; rfl) _⟩
  go_enter Tryd.func11, Tryd.ntmps11
  go_wp2_with (go_at_call 22; refine (isMade_any hb).mono ?_; rintro e w' ⟨rfl, rfl⟩)
  clear hb h1 c4 c5 c6 f4 f5 f6
  go_loopw [35] (fun i wr => ∃ k : Nat, (k : Int) ≤ n ∧ i = .int .i64 k ∧ Box wr B 56 (chan m v n true a x (upTo F k)) ∧ Only B w wr) (fun i _ => n.toNat - (intOf i).toNat)
  case atStart =>
    obtain ⟨p1, p2⟩ := HP.out 0
    exact ⟨0, by omega, rfl, by rw [upTo_zero]; exact p1, p2⟩
  case round =>
    obtain ⟨k, hk, rfl, bx, dx⟩ := hrel
    clear HP
    by_cases hlt : (k : Int) < n
    · have hk16 : k < 16 := by omega
      have c7 : wr.cell? ⟨B, 7 + k, none⟩ = some (.bool (upTo F k k)) := (bx.read (7 + k)).trans (chan_at m v n true a x _ k hk16)
      have f7 := bx.warm (7 + k)
      have b2 := bx.put (7 + k) (.bool true)
      rw [chan_turn m v n true a x _ true k hk16, upTo_succ] at b2
      have d2 : Only B w (wr.setCell ⟨B, 7 + k, none⟩ (.bool true)) := dx.put (by left; rfl) _
      have HQ := Lib.hid (And.intro b2 d2)
      clear b2 d2 bx dx
      go_wp2_with fail
      go_roundw
      case rel => exact ⟨k + 1, by omega, by go_num, HQ.out⟩
      case measure => simp [intOf]; omega
    · go_wp2_with fail
      go_ret
      have bx' : Box wr B 56 (chan m v n true a x (upTo F n.toNat)) := by
        rw [show n.toNat = k from by omega]
        exact bx
      exact ⟨rfl, bx', dx⟩
end
end Go.Proofs.YtgicehhenahfpaaDoor
