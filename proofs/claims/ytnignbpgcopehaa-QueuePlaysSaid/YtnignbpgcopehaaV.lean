/- does, receives: what they leave of a queue. -/
import Derived.Test.YtnignbpgcopehaaP
import Derived.Test.YtnignbpgcopehaaC
set_option linter.unusedVariables false
set_option linter.unusedSimpArgs false
namespace Go.Proofs.Ytnignbpgcopehaa
open Go.RowKit
def Fit (m : Nat) (l : List Sm) : Prop := ∀ x ∈ l, x.1.size ≤ m
theorem fit_nil (m : Nat) : Fit m [] := fun x h => by simp at h
theorem fit_tail {m : Nat} {l : List Sm} (h : Fit m l) : Fit m l.tail := fun x hx => h x (List.mem_of_mem_tail hx)
theorem fit_send {d m : Nat} {l : List Sm} (hm : m ≤ 64) (h : Fit m l) (s : ByteArray) : Fit m (sendM d m l s) := by
  unfold sendM
  split
  · exact h
  · split
    · exact h
    · intro x hx
      rcases List.mem_append.1 hx with hx | hx
      · exact h x hx
      · rw [List.mem_singleton.1 hx, mkS_val (by omega)]; omega
structure Fq (w wr : World) (B d m : Nat) (l : List Sm) : Prop where
  q : Ql wr B d m l
  fit : Fit m l
  only : Only B w wr
section
variable {w wr : World} {B d m : Nat} {l : List Sm}
theorem Fq.send (h : Fq w wr B d m l) (s : ByteArray) : Calls Try.prog 15 #[.pointer (some ⟨B, 0, none⟩), .string s] wr fun e w' => e = .returned (.int .u8 (sendN d m l s)) ∧ Fq w w' B d m (sendM d m l s) := by
  refine (ql_send h.q s).mono ?_
  rintro e w' ⟨rfl, hq, ho⟩
  exact ⟨rfl, hq, fit_send h.q.len.2.2 h.fit s, h.only.trans ho⟩
theorem Fq.recv (h : Fq w wr B d m l) : Calls Try.prog 11 #[.pointer (some ⟨B, 0, none⟩)] wr fun e w' => e = .returned (.tuple #[.string (recvS l), .int .u8 (recvN l)]) ∧ Fq w w' B d m l.tail := by
  refine (ql_recv h.q).mono ?_
  rintro e w' ⟨rfl, hq, ho⟩
  exact ⟨rfl, hq, fit_tail h.fit, h.only.trans ho⟩
end
theorem recvN_lt (l : List Sm) : recvN l < 256 := by
  cases l
  · exact (by decide : (4 : Nat) < 256)
  · exact (by decide : (0 : Nat) < 256)
theorem sendN_lt (d m : Nat) (l : List Sm) (s : ByteArray) : sendN d m l s < 256 := by
  unfold sendN
  repeat' split
  all_goals omega
set_option maxRecDepth 200000 in
theorem does_any (a : Option Addr) (len cap : Nat) (l : List Deed) (w : World) (hlen : len ≤ 100) {B d m : Nat} {Ms : List Sm} (h : Ql w B d m Ms) (hfit : Fit m Ms) (hw : ∀ wx, Only B w wx → IsDeeds wx a len l) : Calls Try.prog 22 #[.pointer (some ⟨B, 0, none⟩), .slice a len cap] w fun e w' => e = .returned (.tuple #[]) ∧ ∃ Ns, Fq w w' B d m Ns := by
  obtain ⟨i0, hi, iz0, iz1, iz2⟩ := info_parts info9
  have LA := Lib.hid hw
  have HL := Lib.hid (show l.length = len from (hw w (Only.refl _ _)).1)
  have hS : Fq w w B d m Ms := ⟨h, hfit, Only.refl _ _⟩
  clear h hfit hw
  go_enter Try.func22, Try.ntmps22
  go_wp2
  go_loopw [4] (fun i wr => ∃ (k : Nat) (Ns : List Sm), k ≤ len ∧ i = .int .i64 k ∧ Fq w wr B d m Ns) (fun i _ => len - (intOf i).toNat)
  case atStart => exact ⟨0, Ms, Nat.zero_le _, rfl, hS⟩
  case round =>
    obtain ⟨k, Ns, hk, rfl, hst⟩ := hrel
    clear hS
    have k1 : (0 : Int) ≤ (k : Int) := Int.natCast_nonneg _
    by_cases hlt : k < len
    · obtain ⟨e, hk2⟩ : ∃ e, l[k]? = some e := ⟨_, List.getElem?_eq_getElem (by rw [HL.out]; exact hlt)⟩
      obtain ⟨b, off, rfl, hbb, c0, c1, hn⟩ := (LA.out wr hst.only).2 k e hk2
      have d0 : wr.cell? ⟨b, off + k * 2, none⟩ = some (.int .u8 e.k) := by rw [Nat.mul_comm]; exact c0
      have d1 : wr.cell? ⟨b, off + k * 2 + 1, none⟩ = some (.string e.s) := by rw [Nat.mul_comm]; exact c1
      have k2 : (k : Int) < (len : Int) := by omega
      rcases e with ⟨what, s⟩
      simp only at d0 d1 hn
      clear c0 c1 hk2 hbb
      have HS := Lib.hid hst
      clear hst
      by_cases q4 : what % 8 < 4
      · have q4' : ((what : Int) % 8 < 4) := by omega
        go_wp2_with (go_at_call 15; refine (HS.out.send s).mono ?_; rintro e w2 ⟨rfl, hz⟩; have HZ := Lib.hid hz; clear hz)
        go_roundw
        case rel => exact ⟨k + 1, _, by omega, by go_num, HZ.out⟩
        case measure => simp [intOf]; omega
      · by_cases q7 : what % 8 < 7
        · have q4n : ¬ ((what : Int) % 8 < 4) := by omega
          have q7' : (what : Int) % 8 < 7 := by omega
          go_wp2_with (go_at_call 11; refine (HS.out.recv).mono ?_; rintro e w2 ⟨rfl, hz⟩; have HZ := Lib.hid hz; clear hz)
          go_roundw
          case rel => exact ⟨k + 1, _, by omega, by go_num, HZ.out⟩
          case measure => simp [intOf]; omega
        · have q4n : ¬ ((what : Int) % 8 < 4) := by omega
          have q7n : ¬ ((what : Int) % 8 < 7) := by omega
          go_wp2
          go_roundw
          case rel => exact ⟨k + 1, _, by omega, by go_num, HS.out⟩
          case measure => simp [intOf]; omega
    · have HST := Lib.hid hst
      clear hst
      go_wp2
      go_end0
      exact ⟨rfl, _, HST.out⟩
theorem receives_any {w wr : World} {B d m : Nat} {l : List Sm} (h : Fq w wr B d m l) : Calls Try.prog 24 #[.pointer (some ⟨B, 0, none⟩), .string (recvS l), .int .u8 (recvN l)] wr fun e w' => e = .returned (.bool true) ∧ Fq w w' B d m l.tail := by
  have hr := recvN_lt l
  have HS := Lib.hid h
  clear h
  have e1 : ((recvS l).toList == (recvS l).toList) = true := by simp
  go_enter Try.func24, Try.ntmps24
  go_wp2_with (go_at_call 11; refine (HS.out.recv).mono ?_; rintro e w2 ⟨rfl, hz⟩; have HZ := Lib.hid hz; clear hz)
  go_ret
  exact ⟨bool_eq (by simp), HZ.out⟩
end Go.Proofs.Ytnignbpgcopehaa
