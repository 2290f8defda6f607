/- Pure: a PLIC's text, its words, and what it says. -/
import Derived.Test.YtlgefljbhbefgaaDoorOf
set_option linter.unusedVariables false
set_option linter.unusedSimpArgs false
namespace Go.Proofs.YtlgefljbhbefgaaDoor
open Go
/-- A string of bytes. -/
def st (l : List UInt8) : ByteArray := ⟨l.toArray⟩
theorem st_app (a b : List UInt8) : st a ++ st b = st (a ++ b) := by
  apply ByteArray.ext
  simp [st, ByteArray.data_append]
theorem st_size (a : List UInt8) : (st a).size = a.length := by
  show a.toArray.size = _
  simp
theorem st_list (l : List UInt8) : (st l).toList = l := by rw [ByteArray.toList_eq]; rfl
theorem st_inj {a b : List UInt8} (h : st a = st b) : a = b := by rw [← st_list a, h, st_list]
/-- Marks, or nothing. -/
def mk (b : Bool) (c : UInt8) : List UInt8 := if b then [c] else []
/-- A source's word. -/
def wordL (s : PS) (n : Nat) : List UInt8 := hx (s.pr n) :: (mk (s.hi n) 104 ++ mk (s.pe n) 112 ++ mk (s.se n) 115)
/-- The first sources' words. -/
def srcsL (s : PS) : Nat → List UInt8
  | 0 => []
  | k + 1 => srcsL s k ++ (wordL s (k + 1) ++ [32])
/-- A context's word. -/
def ctxL (s : PS) (c : Nat) : List UInt8 := [hx (s.en c / 16), hx (s.en c % 16), 47, hx (s.th c)]
def textL (s : PS) : List UInt8 := srcsL s 7 ++ (ctxL s 0 ++ (32 :: ctxL s 1))
theorem dig_hx : ∀ n, n < 8 → Lib.decDigits n = [hx n] := by decide +kernel
theorem hex8_hx : ∀ n, n < 256 → (if n < 16 then [48] else []) ++ hex8 n = [hx (n / 16), hx (n % 16)] := by decide +kernel
theorem hx_inj : ∀ a, a < 16 → ∀ b, b < 16 → hx a = hx b → a = b := by decide +kernel
theorem hx_no : ∀ a, a < 16 → hx a ≠ 32 := by decide +kernel
theorem hx_no8 : ∀ a, a < 8 → hx a ≠ 104 ∧ hx a ≠ 112 ∧ hx a ≠ 115 := by decide +kernel
theorem wordL_len (s : PS) (n : Nat) : (wordL s n).length ≤ 4 := by
  unfold wordL mk
  cases s.hi n <;> cases s.pe n <;> cases s.se n <;> simp
theorem srcsL_len (s : PS) : ∀ k, (srcsL s k).length ≤ 5 * k
  | 0 => Nat.le_refl _
  | k + 1 => by
    have := srcsL_len s k
    have := wordL_len s (k + 1)
    rw [srcsL, List.length_append, List.length_append]
    simp only [List.length_singleton]
    omega
theorem wordL_no {s : PS} (ok : s.ok) (n : Nat) : ∀ x ∈ wordL s n, x ≠ 32 := by
  have h := hx_no _ (Nat.lt_of_lt_of_le (ok.pr n) (by decide))
  intro x hx
  unfold wordL mk at hx
  rcases List.mem_cons.1 hx with rfl | hx
  · exact h
  · revert hx
    cases s.hi n <;> cases s.pe n <;> cases s.se n <;> simp <;> (try (intro h; rcases h with rfl | rfl | rfl <;> decide)) <;> (try (intro h; rcases h with rfl | rfl <;> decide)) <;> (try (intro h; subst h; decide))
theorem split_at {a b x y : List UInt8} (ha : ∀ c ∈ a, c ≠ 32) (hb : ∀ c ∈ b, c ≠ 32) (h : a ++ 32 :: x = b ++ 32 :: y) : a = b ∧ x = y := by
  induction a generalizing b with
  | nil =>
    cases b with
    | nil => simpa using h
    | cons c t => simp at h; exact absurd h.1.symm (hb c (List.mem_cons_self ..))
  | cons c t ih =>
    cases b with
    | nil => simp at h; exact absurd h.1 (ha c (List.mem_cons_self ..))
    | cons d u =>
      simp at h
      obtain ⟨e1, e2⟩ := ih (fun c hc => ha c (List.mem_cons_of_mem _ hc)) (fun c hc => hb c (List.mem_cons_of_mem _ hc)) h.2
      exact ⟨by rw [h.1, e1], e2⟩
theorem mk_inj : ∀ a b c d e f : Bool, mk a 104 ++ mk b 112 ++ mk c 115 = mk d 104 ++ mk e 112 ++ mk f 115 → a = d ∧ b = e ∧ c = f := by decide
theorem wordL_inj {s s' : PS} (ok : s.ok) (ok' : s'.ok) {n : Nat} (h : wordL s n = wordL s' n) : s.pr n = s'.pr n ∧ s.hi n = s'.hi n ∧ s.pe n = s'.pe n ∧ s.se n = s'.se n := by
  unfold wordL at h
  rw [List.cons.injEq] at h
  obtain ⟨h1, h2⟩ := h
  have := ok.pr n
  have := ok'.pr n
  exact ⟨hx_inj _ (by omega) _ (by omega) h1, mk_inj _ _ _ _ _ _ h2⟩
theorem srcs_inj {s s' : PS} (ok : s.ok) (ok' : s'.ok) : ∀ {k : Nat} {x y : List UInt8}, srcsL s k ++ x = srcsL s' k ++ y → x = y ∧ ∀ n, 1 ≤ n → n ≤ k → wordL s n = wordL s' n
  | 0, x, y, h => ⟨h, fun n h1 h2 => by omega⟩
  | k + 1, x, y, h => by
    simp only [srcsL, List.append_assoc] at h
    obtain ⟨h1, h2⟩ := srcs_inj ok ok' (k := k) h
    obtain ⟨h3, h4⟩ := split_at (wordL_no ok _) (wordL_no ok' _) h1
    refine ⟨h4, fun n hn hn2 => ?_⟩
    by_cases e : n = k + 1
    · subst e; exact h3
    · exact h2 n hn (by omega)
/-- All that a PLIC is. -/
structure PS.eqv (s s' : PS) : Prop where
  src : ∀ n, 1 ≤ n → n ≤ 7 → s.pr n = s'.pr n ∧ s.hi n = s'.hi n ∧ s.pe n = s'.pe n ∧ s.se n = s'.se n
  con : ∀ c, c < 2 → s.en c = s'.en c ∧ s.th c = s'.th c
theorem PS.eqv_text {s s' : PS} (ok : s.ok) (ok' : s'.ok) : textL s = textL s' ↔ s.eqv s' := by
  constructor
  · intro h
    unfold textL at h
    obtain ⟨h1, h2⟩ := srcs_inj ok ok' h
    simp only [ctxL, List.cons_append, List.nil_append, List.cons.injEq, true_and] at h1
    obtain ⟨a1, a2, a3, a4, a5, a6⟩ := h1
    have e0 := ok.en 0
    have e1 := ok.en 1
    have e2 := ok'.en 0
    have e3 := ok'.en 1
    have t0 := ok.th 0
    have t1 := ok.th 1
    have t2 := ok'.th 0
    have t3 := ok'.th 1
    have b1 := hx_inj _ (by omega) _ (by omega) a1
    have b2 := hx_inj _ (by omega) _ (by omega) a2
    have b3 := hx_inj _ (by omega) _ (by omega) a3
    have b4 := hx_inj _ (by omega) _ (by omega) a4
    have b5 := hx_inj _ (by omega) _ (by omega) a5
    have b6 := hx_inj _ (by omega) _ (by omega) a6.1
    refine ⟨fun n h3 h4 => wordL_inj ok ok' (h2 n h3 h4), fun c hc => ?_⟩
    rcases c with _ | _ | c
    · exact ⟨by omega, b3⟩
    · refine ⟨?_, b6⟩
      show s.en 1 = s'.en 1
      omega
    · omega
  · intro h
    have hw : ∀ n, 1 ≤ n → n ≤ 7 → wordL s n = wordL s' n := fun n h1 h2 => by
      obtain ⟨a, b, c, d⟩ := h.src n h1 h2
      unfold wordL
      rw [a, b, c, d]
    have hs : ∀ k, k ≤ 7 → srcsL s k = srcsL s' k := fun k => by
      induction k with
      | zero => intro _; rfl
      | succ k ih => intro hk; rw [srcsL, srcsL, ih (by omega), hw (k + 1) (by omega) hk]
    unfold textL
    rw [hs 7 (Nat.le_refl _)]
    unfold ctxL
    rw [(h.con 0 (by decide)).1, (h.con 0 (by decide)).2, (h.con 1 (by decide)).1, (h.con 1 (by decide)).2]
theorem textL_len (s : PS) : (textL s).length ≤ 44 := by
  have := srcsL_len s 7
  unfold textL
  rw [List.length_append]
  have : (ctxL s 0 ++ (32 :: ctxL s 1)).length = 9 := rfl
  omega
/-- What stands behind the first sources. -/
def restL (s : PS) : Nat → List UInt8
  | 0 => ctxL s 0 ++ (32 :: ctxL s 1)
  | j + 1 => wordL s (7 - j) ++ 32 :: restL s j
theorem text_split (s : PS) : ∀ j, j ≤ 7 → textL s = srcsL s (7 - j) ++ restL s j
  | 0, _ => rfl
  | j + 1, h => by
    rw [text_split s j (by omega), show 7 - j = (7 - (j + 1)) + 1 by omega, srcsL, restL, show 7 - j = (7 - (j + 1)) + 1 by omega]
    simp
theorem count_no {l : List UInt8} (h : ∀ x ∈ l, x ≠ 32) : l.count 32 = 0 := by
  rw [List.count_eq_zero]
  exact fun hm => h 32 hm rfl
theorem count_srcs {s : PS} (ok : s.ok) : ∀ k, (srcsL s k).count 32 = k
  | 0 => rfl
  | k + 1 => by
    rw [srcsL, List.count_append, List.count_append, count_srcs ok k, count_no (wordL_no ok _)]
    simp
/-- The k-th word of a text, and what is ahead of it. -/
theorem text_word {s : PS} (ok : s.ok) (k : Nat) (h1 : 1 ≤ k) (h7 : k ≤ 7) : ∃ rest, textL s = srcsL s (k - 1) ++ (wordL s k ++ 32 :: rest) ∧ (srcsL s (k - 1)).count 32 = k - 1 := by
  refine ⟨restL s (7 - k), ?_, count_srcs ok _⟩
  rw [text_split s (7 - k + 1) (by omega), show 7 - (7 - k + 1) = k - 1 by omega, restL, show 7 - (7 - k) = k by omega]
theorem srcs_end (s : PS) (k : Nat) (h : srcsL s k ≠ []) : (srcsL s k).getLast? = some 32 := by
  cases k with
  | zero => exact absurd rfl h
  | succ k => rw [srcsL, ← List.append_assoc, List.getLast?_append]; simp
end Go.Proofs.YtlgefljbhbefgaaDoor
