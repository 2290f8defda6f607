/- Acts in memory, and few. -/
import Derived.Test.YtgicehhenahfpaaDoorZ
set_option linter.unusedVariables false
set_option linter.unusedSimpArgs false
namespace Go.Proofs.YtgicehhenahfpaaDoor
open Go.RowKit
theorem bool_eq {a b : Bool} (h : a = b) : Ending.returned (.bool a) = .returned (.bool b) := by rw [h]
/-- What is done. -/
structure Deed where
  k : Nat
  a : Nat
  wd : Int
  s : ByteArray
/-- A row of deeds that stands in memory. -/
def IsDeeds (w : World) (a : Option Addr) (len : Nat) (l : List Deed) : Prop :=
  l.length = len ∧ ∀ k (f : Deed), l[k]? = some f → ∃ b off, a = some ⟨b, off, none⟩ ∧ b < w.heap.size ∧ w.cell? ⟨b, off + 4 * k, none⟩ = some (.int .u8 f.k) ∧ w.cell? ⟨b, off + 4 * k + 1, none⟩ = some (.int .u64 f.a) ∧ w.cell? ⟨b, off + 4 * k + 2, none⟩ = some (.string f.s) ∧ w.cell? ⟨b, off + 4 * k + 3, none⟩ = some (.int .i64 f.wd) ∧ f.k < 256 ∧ f.a < 18446744073709551616
open Classical in
noncomputable def fewB (len : Nat) (l : List Deed) : Bool := decide (len ≤ 50 ∧ ∀ (j : Nat) (f : Deed), j < 60 → l[j]? = some f → f.s.size ≤ 100)
open Classical in
theorem fewB_yes {len : Nat} {l : List Deed} (h : len ≤ 50 ∧ ∀ (j : Nat) (f : Deed), j < 60 → l[j]? = some f → f.s.size ≤ 100) : fewB len l = true := decide_eq_true h
open Classical in
theorem fewB_no {len : Nat} {l : List Deed} (h : ¬ (len ≤ 50 ∧ ∀ (j : Nat) (f : Deed), j < 60 → l[j]? = some f → f.s.size ≤ 100)) : fewB len l = false := decide_eq_false h
open Classical in
theorem fewB_of {len : Nat} {l : List Deed} (h : fewB len l = true) : len ≤ 50 ∧ ∀ (j : Nat) (f : Deed), j < 60 → l[j]? = some f → f.s.size ≤ 100 := of_decide_eq_true h
theorem few_any (a : Option Addr) (len cap : Nat) (l : List Deed) (w : World) (hf : IsDeeds w a len l) : Calls Tryd.prog 7 #[.slice a len cap] w fun e w' => e = .returned (.bool (fewB len l)) ∧ w = w' := by
  have hlen := hf.1
  generalize hB : fewB len l = bb
  have HB := Lib.hid hB
  clear hB
  go_enter Tryd.func7, Tryd.ntmps7
  go_wp2
  go_loop [3] (fun i => ∃ k : Nat, k ≤ len ∧ k ≤ 60 ∧ i = .int .i64 k ∧ ∀ (j : Nat) (f : Deed), j < k → l[j]? = some f → f.s.size ≤ 100) (fun i => len - (intOf i).toNat)
  case atStart => exact ⟨0, Nat.zero_le _, by omega, rfl, fun j f h => by omega⟩
  case round =>
    obtain ⟨k, hk, hk2, rfl, hall⟩ := hrel
    have HA := Lib.hid hall
    clear hall
    have k1 : (0 : Int) ≤ (k : Int) := Int.natCast_nonneg _
    by_cases hlt : k < len
    · by_cases h110 : k < 60
      · obtain ⟨f, hk2⟩ : ∃ f, l[k]? = some f := ⟨_, List.getElem?_eq_getElem (by omega)⟩
        obtain ⟨b, off, rfl, hbb, c0, c1, c2, c3, hn⟩ := hf.2 k f hk2
        have d1 : w.cell? ⟨b, off + k * 4 + 2, none⟩ = some (.string f.s) := by rw [Nat.mul_comm]; exact c2
        have k2 : (k : Int) < (len : Int) := by omega
        have HK := Lib.hid hk2
        clear c0 c1 c2 c3 hk2 hf
        by_cases hs : 100 < f.s.size
        · go_wp2
          go_ret
          exact ⟨bool_eq (by rw [← HB.out]; exact (fewB_no fun h => by have := h.2 k f h110 HK.out; omega).symm), rfl⟩
        · go_wp2
          go_round
          case rel => exact ⟨k + 1, by omega, by omega, by go_num, fun j f' hj hf' => by
            by_cases e : j = k
            · subst e; have := HK.out; rw [hf'] at this; cases this; omega
            · exact HA.out j f' (by omega) hf'⟩
          case measure => simp [intOf]; omega
      · have h100 : ¬ len ≤ 50 := by omega
        clear hf
        go_wp2
        go_ret
        exact ⟨bool_eq (by rw [← HB.out]; exact (decide_eq_false (by omega)).trans (fewB_no fun h => by omega).symm), rfl⟩
    · obtain rfl : k = len := by omega
      clear hf
      by_cases h100 : k ≤ 50
      · go_wp2
        go_ret
        exact ⟨bool_eq (by rw [← HB.out]; exact (decide_eq_true (by omega)).trans (fewB_yes ⟨h100, fun j f _ hj => HA.out j f (by have := (List.getElem?_eq_some_iff.1 hj).1; omega) hj⟩).symm), rfl⟩
      · go_wp2
        go_ret
        exact ⟨bool_eq (by rw [← HB.out]; exact (decide_eq_false (by omega)).trans (fewB_no fun h => by omega).symm), rfl⟩
theorem few_true {len : Nat} {l : List Deed} (hl : l.length = len) (h : fewB len l = true) : len ≤ 50 ∧ ∀ (j : Nat) (f : Deed), l[j]? = some f → f.s.size ≤ 100 := by
  have h := fewB_of h
  exact ⟨h.1, fun j f hj => h.2 j f (by have := (List.getElem?_eq_some_iff.1 hj).1; omega) hj⟩
theorem IsDeeds.later {w wx : World} {a : Option Addr} {len : Nat} {l : List Deed} (hf : IsDeeds w a len l) (bel : Below w.heap.size w wx) : IsDeeds wx a len l := ⟨hf.1, fun k f hk => by
    obtain ⟨b, off, rfl, hbb, c0, c1, c2, c3, hn⟩ := hf.2 k f hk
    exact ⟨b, off, rfl, Nat.lt_of_lt_of_le hbb bel.size, (bel.cell (by exact hbb)).trans c0, (bel.cell (by exact hbb)).trans c1, (bel.cell (by exact hbb)).trans c2, (bel.cell (by exact hbb)).trans c3, hn⟩⟩
end Go.Proofs.YtgicehhenahfpaaDoor
