/- Pure: a channel's text, and that it says what it is made of. -/
import Derived.Lib.ItoaNum
set_option linter.unusedVariables false
set_option linter.unusedSimpArgs false
namespace Go.Proofs.YtgicehhenahfpaaDoor
open Go
/-- A digit of sixteen. -/
def hx (n : Nat) : UInt8 := if n < 10 then UInt8.ofNat (48 + n) else UInt8.ofNat (87 + n)
/-- Bytes by two digits each. -/
def hexL : List UInt8 → List UInt8
  | [] => []
  | c :: t => hx (c.toNat / 16) :: hx (c.toNat % 16) :: hexL t
/-- Bytes as people read them. -/
def hexT (l : List UInt8) : List UInt8 := if l = [] then [45] else hexL l
/-- Who has not read it. -/
def bitsL (F : Nat → Bool) (n : Nat) : List UInt8 := (List.range n).map fun k => if F k then 49 else 48
/-- The text. -/
def textL (t : Nat) (s : List UInt8) (F : Nat → Bool) (n : Nat) : List UInt8 := Lib.decDigits t ++ 32 :: (hexT s ++ 32 :: bitsL F n)

theorem hx_inj : ∀ a, a < 16 → ∀ b, b < 16 → hx a = hx b → a = b := by decide +kernel
theorem hx_no : ∀ a, a < 16 → hx a ≠ 32 ∧ hx a ≠ 45 := by decide +kernel
theorem hexL_inj : ∀ {a b : List UInt8}, hexL a = hexL b → a = b
  | [], [], _ => rfl
  | [], c :: t, h => by cases h
  | c :: t, [], h => by cases h
  | c :: t, d :: u, h => by
    simp only [hexL, List.cons.injEq] at h
    obtain ⟨h1, h2, h3⟩ := h
    have hc := UInt8.toNat_lt c
    have hd := UInt8.toNat_lt d
    have e1 := hx_inj _ (by omega) _ (by omega) h1
    have e2 := hx_inj _ (by omega) _ (by omega) h2
    have e : c = d := UInt8.toNat_inj.1 (by omega)
    rw [e, hexL_inj h3]
theorem hexL_no : ∀ {a : List UInt8}, ∀ x ∈ hexL a, x ≠ 32 ∧ x ≠ 45
  | [], x, h => by cases h
  | c :: t, x, h => by
    have hc := UInt8.toNat_lt c
    simp only [hexL, List.mem_cons] at h
    rcases h with rfl | rfl | h
    · exact hx_no _ (by omega)
    · exact hx_no _ (by omega)
    · exact hexL_no x h
theorem hexT_no {a : List UInt8} : ∀ x ∈ hexT a, x ≠ 32 := by
  intro x hx
  unfold hexT at hx
  split at hx
  · rcases List.mem_singleton.1 hx with rfl
    decide
  · exact (hexL_no x hx).1
theorem hexT_inj {a b : List UInt8} (h : hexT a = hexT b) : a = b := by
  unfold hexT at h
  split at h <;> split at h
  · rename_i h1 h2; rw [h1, h2]
  · exact absurd rfl (hexL_no 45 (by rw [← h]; exact List.mem_singleton.2 rfl)).2
  · exact absurd rfl (hexL_no 45 (by rw [h]; exact List.mem_singleton.2 rfl)).2
  · exact hexL_inj h
theorem bits_inj {F G : Nat → Bool} {n : Nat} (h : bitsL F n = bitsL G n) : ∀ k, k < n → F k = G k := by
  intro k hk
  have h1 := congrArg (fun l => l[k]?) h
  simp only [bitsL, List.getElem?_map, List.getElem?_range hk, Option.map_some, Option.some.injEq] at h1
  revert h1
  cases F k <;> cases G k <;> decide
theorem bits_eq {F G : Nat → Bool} {n : Nat} (h : ∀ k, k < n → F k = G k) : bitsL F n = bitsL G n := by
  unfold bitsL
  refine List.map_congr_left fun k hk => ?_
  rw [h k (List.mem_range.1 hk)]
theorem d_sm {n : Nat} (h : n < 10) : Lib.decDigits n = [UInt8.ofNat (48 + n)] := by rw [Lib.decDigits, dif_pos h]
theorem d_sp {n : Nat} (h : ¬ n < 10) : Lib.decDigits n = Lib.decDigits (n / 10) ++ [UInt8.ofNat (48 + n % 10)] := by rw [Lib.decDigits, dif_neg h]
theorem dd_no : ∀ n : Nat, ∀ x ∈ Lib.decDigits n, x ≠ 32 := by
  intro n
  induction n using Nat.strongRecOn with
  | _ n ih =>
    intro x hx
    have hd : ∀ m, m < 10 → UInt8.ofNat (48 + m) ≠ 32 := by decide +kernel
    by_cases h : n < 10
    · rw [Lib.decDigits, dif_pos h] at hx
      rcases List.mem_singleton.1 hx with rfl
      exact hd n h
    · rw [Lib.decDigits, dif_neg h, List.mem_append] at hx
      rcases hx with hx | hx
      · exact ih (n / 10) (by omega) x hx
      · rcases List.mem_singleton.1 hx with rfl
        exact hd _ (by omega)
theorem dd_ne (n : Nat) : Lib.decDigits n ≠ [] := by
  rw [Lib.decDigits]
  split <;> simp
theorem dd_inj : ∀ {a b : Nat}, Lib.decDigits a = Lib.decDigits b → a = b := by
  have hd : ∀ m, m < 10 → ∀ k, k < 10 → UInt8.ofNat (48 + m) = UInt8.ofNat (48 + k) → m = k := by decide +kernel
  intro a
  induction a using Nat.strongRecOn with
  | _ a ih =>
    intro b h
    by_cases ha : a < 10 <;> by_cases hb : b < 10
    · rw [d_sm ha, d_sm hb] at h
      exact hd a ha b hb (List.cons.inj h).1
    · exfalso
      rw [d_sm ha, d_sp hb] at h
      have h1 := congrArg List.length h
      have h2 := List.length_pos_iff.2 (dd_ne (b / 10))
      simp only [List.length_append, List.length_cons, List.length_nil] at h1
      omega
    · exfalso
      rw [d_sp ha, d_sm hb] at h
      have h1 := congrArg List.length h
      have h2 := List.length_pos_iff.2 (dd_ne (a / 10))
      simp only [List.length_append, List.length_cons, List.length_nil] at h1
      omega
    · rw [d_sp ha, d_sp hb] at h
      obtain ⟨h1, h2⟩ := List.append_inj' h rfl
      have e1 := ih (a / 10) (by omega) h1
      have e2 := hd _ (by omega) _ (by omega) (List.cons.inj h2).1
      omega
/-- What stands ahead of the first space is the same. -/
theorem split_inj : ∀ {a b c d : List UInt8}, (∀ x ∈ a, x ≠ 32) → (∀ x ∈ b, x ≠ 32) → a ++ 32 :: c = b ++ 32 :: d → a = b ∧ c = d
  | [], [], c, d, _, _, h => ⟨rfl, (List.cons.inj h).2⟩
  | [], y :: b, c, d, _, hb, h => absurd (List.cons.inj h).1.symm (hb y (List.mem_cons_self ..))
  | x :: a, [], c, d, ha, _, h => absurd (List.cons.inj h).1 (ha x (List.mem_cons_self ..))
  | x :: a, y :: b, c, d, ha, hb, h => by
    obtain ⟨h1, h2⟩ := List.cons.inj h
    obtain ⟨e1, e2⟩ := split_inj (fun z hz => ha z (List.mem_cons_of_mem _ hz)) (fun z hz => hb z (List.mem_cons_of_mem _ hz)) h2
    exact ⟨by rw [h1, e1], e2⟩
theorem text_inj {t u : Nat} {s r : List UInt8} {F G : Nat → Bool} {n : Nat} (h : textL t s F n = textL u r G n) : t = u ∧ s = r ∧ ∀ k, k < n → F k = G k := by
  obtain ⟨h1, h2⟩ := split_inj (dd_no t) (dd_no u) h
  obtain ⟨h3, h4⟩ := split_inj hexT_no hexT_no h2
  exact ⟨dd_inj h1, hexT_inj h3, bits_inj h4⟩
theorem text_ne {t : Nat} {s : List UInt8} {F : Nat → Bool} {n : Nat} : textL t s F n ≠ [45] := by
  intro h
  have := congrArg (fun l => decide (32 ∈ l)) h
  simp [textL] at this
theorem hexL_app : ∀ (a b : List UInt8), hexL (a ++ b) = hexL a ++ hexL b
  | [], b => rfl
  | c :: t, b => by simp [hexL, hexL_app t b]
theorem hexL_len : ∀ (a : List UInt8), (hexL a).length = 2 * a.length
  | [] => rfl
  | c :: t => by simp [hexL, hexL_len t]; omega
end Go.Proofs.YtgicehhenahfpaaDoor
