/- PlicServes: what stands in memory, and what always holds. -/
import Derived.Test.YtlgefljbhbefgaaDoorL
import Derived.Laws.Bits64b
set_option linter.unusedVariables false
set_option linter.unusedSimpArgs false
namespace Go.Proofs.YtlgefljbhbefgaaDoor
open Go.RowKit
/-- Eight truths. -/
def bs (F : Nat → Bool) : Array Value := #[.bool (F 0), .bool (F 1), .bool (F 2), .bool (F 3), .bool (F 4), .bool (F 5), .bool (F 6), .bool (F 7)]
theorem bs_at (F : Nat → Bool) : ∀ i : Nat, i < 8 → (bs F)[i]? = some (.bool (F i))
  | 0, _ => rfl
  | 1, _ => rfl
  | 2, _ => rfl
  | 3, _ => rfl
  | 4, _ => rfl
  | 5, _ => rfl
  | 6, _ => rfl
  | 7, _ => rfl
  | k + 8, h => absurd h (by omega)
theorem bs_put (F : Nat → Bool) (x : Bool) : ∀ i : Nat, i < 8 → (bs F).setIfInBounds i (.bool x) = bs (upd F i x)
  | 0, _ => by kernel_rfl
  | 1, _ => by kernel_rfl
  | 2, _ => by kernel_rfl
  | 3, _ => by kernel_rfl
  | 4, _ => by kernel_rfl
  | 5, _ => by kernel_rfl
  | 6, _ => by kernel_rfl
  | 7, _ => by kernel_rfl
  | k + 8, h => absurd h (by omega)
/-- What stands in memory: the PLIC, and three rows of truths. -/
structure Bz (w0 w : World) (P A B C : Nat) (s : PS) (S F H : Nat → Bool) : Prop where
  pl : Box w P 58 (plc s)
  sv : Box w A 28 (bs S)
  fv : Box w B 28 (bs F)
  hv : Box w C 28 (bs H)
  ab : A ≠ B
  ac : A ≠ C
  bc : B ≠ C
  lp : w0.heap.size ≤ P
  la : w0.heap.size ≤ A
  lb : w0.heap.size ≤ B
  lc : w0.heap.size ≤ C
  bel : Below w0.heap.size w0 w
theorem box_ne {w : World} {a b : Nat} {t u : TypeId} {cs ds : Array Value} (h : Box w a t cs) (k : Box w b u ds) (ht : t ≠ u) : a ≠ b := fun e => by
  subst e
  have h1 : w.heap[a]? = some (.cells cs t (0, 0)) := h
  rw [show w.heap[a]? = _ from k] at h1
  cases h1
  exact ht rfl
section
variable {w0 w w2 : World} {P A B C X : Nat} {s s' : PS} {S F H : Nat → Bool} {xs : Array Value}
theorem Bz.below (h : Bz w0 w P A B C s S F H) (hb : Below w.heap.size w w2) : Bz w0 w2 P A B C s S F H :=
  ⟨h.pl.over hb h.pl.inHeap, h.sv.over hb h.sv.inHeap, h.fv.over hb h.fv.inHeap, h.hv.over hb h.hv.inHeap, h.ab, h.ac, h.bc, h.lp, h.la, h.lb, h.lc, h.bel.trans (hb.mono h.bel.size)⟩
theorem Bz.plc (h : Bz w0 w P A B C s S F H) (hb : Box w2 P 58 (plc s')) (ho : Only P w w2) : Bz w0 w2 P A B C s' S F H :=
  ⟨hb, h.sv.only ho (box_ne h.sv h.pl (by decide)), h.fv.only ho (box_ne h.fv h.pl (by decide)), h.hv.only ho (box_ne h.hv h.pl (by decide)), h.ab, h.ac, h.bc, h.lp, h.la, h.lb, h.lc, h.bel.trans (ho.below h.lp h.bel.size)⟩
theorem Bz.setS (h : Bz w0 w P A B C s S F H) (n : Nat) (hn : n < 8) (x : Bool) : Bz w0 (w.setCell ⟨A, n, none⟩ (.bool x)) P A B C s (upd S n x) F H :=
  ⟨h.pl.putFar (p := ⟨A, n, none⟩) (box_ne h.pl h.sv (by decide)) _, by rw [← bs_put S x n hn]; exact h.sv.put n _, h.fv.putFar (p := ⟨A, n, none⟩) h.ab.symm _, h.hv.putFar (p := ⟨A, n, none⟩) h.ac.symm _, h.ab, h.ac, h.bc, h.lp, h.la, h.lb, h.lc, h.bel.setCell (p := ⟨A, n, none⟩) h.la _⟩
theorem Bz.setF (h : Bz w0 w P A B C s S F H) (n : Nat) (hn : n < 8) (x : Bool) : Bz w0 (w.setCell ⟨B, n, none⟩ (.bool x)) P A B C s S (upd F n x) H :=
  ⟨h.pl.putFar (p := ⟨B, n, none⟩) (box_ne h.pl h.fv (by decide)) _, h.sv.putFar (p := ⟨B, n, none⟩) h.ab _, by rw [← bs_put F x n hn]; exact h.fv.put n _, h.hv.putFar (p := ⟨B, n, none⟩) h.bc.symm _, h.ab, h.ac, h.bc, h.lp, h.la, h.lb, h.lc, h.bel.setCell (p := ⟨B, n, none⟩) h.lb _⟩
theorem Bz.setH (h : Bz w0 w P A B C s S F H) (n : Nat) (hn : n < 8) (x : Bool) : Bz w0 (w.setCell ⟨C, n, none⟩ (.bool x)) P A B C s S F (upd H n x) :=
  ⟨h.pl.putFar (p := ⟨C, n, none⟩) (box_ne h.pl h.hv (by decide)) _, h.sv.putFar (p := ⟨C, n, none⟩) h.ac _, h.fv.putFar (p := ⟨C, n, none⟩) h.bc _, by rw [← bs_put H x n hn]; exact h.hv.put n _, h.ab, h.ac, h.bc, h.lp, h.la, h.lb, h.lc, h.bel.setCell (p := ⟨C, n, none⟩) h.lc _⟩
/-- .. and the act, too. -/
def Bw (w0 w : World) (P A B C : Nat) (s : PS) (S F H : Nat → Bool) (X : Nat) (xs : Array Value) : Prop := Bz w0 w P A B C s S F H ∧ Box w X 35 xs
theorem Bw.below (h : Bw w0 w P A B C s S F H X xs) (hb : Below w.heap.size w w2) : Bw w0 w2 P A B C s S F H X xs := ⟨h.1.below hb, h.2.over hb h.2.inHeap⟩
theorem Bw.plc (h : Bw w0 w P A B C s S F H X xs) (hb : Box w2 P 58 (plc s')) (ho : Only P w w2) : Bw w0 w2 P A B C s' S F H X xs := ⟨h.1.plc hb ho, h.2.only ho (box_ne h.2 h.1.pl (by decide))⟩
theorem Bw.setS (h : Bw w0 w P A B C s S F H X xs) (n : Nat) (hn : n < 8) (x : Bool) : Bw w0 (w.setCell ⟨A, n, none⟩ (.bool x)) P A B C s (upd S n x) F H X xs := ⟨h.1.setS n hn x, h.2.putFar (p := ⟨A, n, none⟩) (box_ne h.2 h.1.sv (by decide)) _⟩
theorem Bw.setF (h : Bw w0 w P A B C s S F H X xs) (n : Nat) (hn : n < 8) (x : Bool) : Bw w0 (w.setCell ⟨B, n, none⟩ (.bool x)) P A B C s S (upd F n x) H X xs := ⟨h.1.setF n hn x, h.2.putFar (p := ⟨B, n, none⟩) (box_ne h.2 h.1.fv (by decide)) _⟩
theorem Bw.setH (h : Bw w0 w P A B C s S F H X xs) (n : Nat) (hn : n < 8) (x : Bool) : Bw w0 (w.setCell ⟨C, n, none⟩ (.bool x)) P A B C s S F (upd H n x) X xs := ⟨h.1.setH n hn x, h.2.putFar (p := ⟨C, n, none⟩) (box_ne h.2 h.1.hv (by decide)) _⟩
end
/-- What always holds at a round's start. -/
structure Inv (s : PS) (F : Nat → Bool) : Prop where
  ok : s.ok
  hf : ∀ n, s.hi n = true → F n = true
  pf : ∀ n, s.pe n = true → F n = true
theorem Inv.zero : Inv .zero (fun _ => false) := ⟨PS.zero_ok, fun _ h => absurd (show false = true from h) (by decide), fun _ h => absurd (show false = true from h) (by decide)⟩
theorem Inv.raise {s : PS} {F : Nat → Bool} (h : Inv s F) {n : Nat} (hn : 1 ≤ n) (b : Bool) : Inv (s.raise n b) (upd F n (F n || b)) := by
  refine ⟨h.ok.raise hn b, fun k hk => ?_, fun k hk => ?_⟩
  · have hk : upd s.hi n b k = true := hk
    by_cases e : k = n
    · subst e; rw [upd_at] at hk ⊢; simp [hk]
    · rw [upd_ne _ _ e] at hk ⊢; exact h.hf k hk
  · have hk : (if b = true ∧ s.se n = false then upd s.pe n true else s.pe) k = true := hk
    by_cases e : k = n
    · subst e
      rw [upd_at]
      split at hk
      · rename_i hb; simp [hb.1]
      · simp [h.pf k hk]
    · rw [upd_ne _ _ e]
      split at hk
      · rw [upd_ne _ _ e] at hk; exact h.pf k hk
      · exact h.pf k hk
theorem wr_keeps (s : PS) (off v : Nat) (h1 : off ≠ 2101252) (h2 : off ≠ 2097156) : (s.wr off v).hi = s.hi ∧ (s.wr off v).pe = s.pe ∧ (s.wr off v).se = s.se := by
  unfold PS.wr
  repeat' split
  all_goals first | exact ⟨rfl, rfl, rfl⟩ | (exfalso; omega)
theorem Inv.wr {s : PS} {F : Nat → Bool} (h : Inv s F) (off v : Nat) (h1 : off ≠ 2101252) (h2 : off ≠ 2097156) : Inv (s.wr off v) F := by
  obtain ⟨e1, e2, e3⟩ := wr_keeps s off v h1 h2
  exact ⟨h.ok.wr off v, by rw [e1]; exact h.hf, by rw [e2]; exact h.pf⟩
/-- What a claim serves. -/
theorem best_spec {s : PS} (ok : s.ok) (c : Nat) : (s.best c = 0 ∨ (s.q c (s.best c) = true ∧ 0 < s.pr (s.best c))) ∧ ∀ k, k < 8 → s.q c k = true → s.pr k ≤ s.pr (s.best c) ∧ (k < s.best c → s.pr k < s.pr (s.best c)) := by
  obtain ⟨h1, h2⟩ := bst_spec (q := s.q c) (pr := s.pr) ok.pr0 8
  refine ⟨?_, h2⟩
  rcases h1 with h1 | ⟨_, h3, h4⟩
  · exact .inl h1
  · exact .inr ⟨h3, h4⟩
theorem Inv.claim {s : PS} {F : Nat → Bool} (h : Inv s F) (c : Nat) (hb : s.best c ≠ 0) : Inv (s.claim c) (upd F (s.best c) (s.hi (s.best c))) ∧ (s.claim c).se = upd s.se (s.best c) true ∧ (s.claim c).hi = s.hi ∧ (s.claim c).pr = s.pr := by
  have e : s.claim c = { s with pe := upd s.pe (s.best c) false, se := upd s.se (s.best c) true } := by rw [PS.claim, if_neg hb]
  refine ⟨⟨h.ok.claim c, ?_, ?_⟩, by rw [e], by rw [e], by rw [e]⟩
  · rw [e]
    intro k hk
    have hk : s.hi k = true := hk
    by_cases e : k = s.best c
    · subst e; rw [upd_at]; exact hk
    · rw [upd_ne _ _ e]; exact h.hf k hk
  · rw [e]
    intro k hk
    have hk : upd s.pe (s.best c) false k = true := hk
    by_cases e : k = s.best c
    · subst e; rw [upd_at] at hk; cases hk
    · rw [upd_ne _ _ e] at hk ⊢; exact h.pf k hk
/-- Claimed and completed. -/
theorem Inv.done {s : PS} {F : Nat → Bool} (h : Inv s F) (c : Nat) (hb : s.best c ≠ 0) : Inv ((s.claim c).done c (s.best c)) (upd F (s.best c) (s.hi (s.best c))) ∧ ((s.claim c).done c (s.best c)).se = upd (upd s.se (s.best c) true) (s.best c) false ∧ ((s.claim c).done c (s.best c)).hi = s.hi ∧ ((s.claim c).done c (s.best c)).pe (s.best c) = s.hi (s.best c) := by
  have hq := (best_spec h.ok c).1.resolve_left hb
  have hlt := s.best_lt c
  have e : s.claim c = { s with pe := upd s.pe (s.best c) false, se := upd s.se (s.best c) true } := by rw [PS.claim, if_neg hb]
  have hon : s.on c (s.best c) = true := by
    have := hq.1
    simp only [PS.q, Bool.and_eq_true] at this
    exact this.2
  have e2 : (s.claim c).done c (s.best c) = { s with pe := if s.hi (s.best c) = true then upd (upd s.pe (s.best c) false) (s.best c) true else upd s.pe (s.best c) false, se := upd (upd s.se (s.best c) true) (s.best c) false } := by
    rw [PS.done, e, if_pos ⟨by omega, hlt, hon, by show upd s.se (s.best c) true (s.best c) = true; exact upd_at _ _ _⟩]
  have hI := (h.claim c hb).1
  refine ⟨⟨hI.ok.done c _, ?_, ?_⟩, by rw [e2], by rw [e2], ?_⟩
  · rw [e2]
    intro k hk
    have hk : s.hi k = true := hk
    by_cases e : k = s.best c
    · subst e; rw [upd_at]; exact hk
    · rw [upd_ne _ _ e]; exact h.hf k hk
  · rw [e2]
    intro k hk
    have hk : (if s.hi (s.best c) = true then upd (upd s.pe (s.best c) false) (s.best c) true else upd s.pe (s.best c) false) k = true := hk
    by_cases e : k = s.best c
    · rw [e] at hk ⊢
      rw [upd_at]
      split at hk
      · rename_i h3; exact h3
      · rw [upd_at] at hk; cases hk
    · rw [upd_ne _ _ e]
      split at hk
      · rw [upd_ne _ _ e, upd_ne _ _ e] at hk; exact h.pf k hk
      · rw [upd_ne _ _ e] at hk; exact h.pf k hk
  · rw [e2]
    show (if s.hi (s.best c) = true then upd (upd s.pe (s.best c) false) (s.best c) true else upd s.pe (s.best c) false) (s.best c) = s.hi (s.best c)
    split
    · rename_i h3; rw [upd_at, h3]
    · rename_i h3; rw [upd_at]; cases hh : s.hi (s.best c)
      · rfl
      · exact absurd hh h3
/-- What is read. -/
theorem rd_pend (s : PS) : s.rd 4096 = (bitsN s.pe 8, s) := rfl
theorem rd_en (s : PS) : ∀ c, c < 2 → s.rd (8192 + 128 * c) = (s.en c, s)
  | 0, _ => rfl
  | 1, _ => rfl
  | k + 2, h => absurd h (by omega)
theorem rd_cl (s : PS) : ∀ c, c < 2 → s.rd (2097156 + 4096 * c) = (s.best c, s.claim c)
  | 0, _ => rfl
  | 1, _ => rfl
  | k + 2, h => absurd h (by omega)
theorem wr_cl (s : PS) (v : Nat) : ∀ c, c < 2 → s.wr (2097156 + 4096 * c) v = s.done c v
  | 0, _ => rfl
  | 1, _ => rfl
  | k + 2, h => absurd h (by omega)
theorem rd_pri (s : PS) (h0 : s.pr 0 = 0) : ∀ n, n < 8 → s.rd (4 * n) = (s.pr n, s)
  | 0, _ => by rw [h0]; rfl
  | 1, _ => rfl
  | 2, _ => rfl
  | 3, _ => rfl
  | 4, _ => rfl
  | 5, _ => rfl
  | 6, _ => rfl
  | 7, _ => rfl
  | k + 8, h => absurd h (by omega)
theorem reg_pri : ∀ n, n < 8 → isReg (4 * n) 4 = true := by decide
/-- A bit of a number of truths. -/
theorem bits8 : ∀ b0 b1 b2 b3 b4 b5 b6 b7 : Bool, ∀ k : Nat, k < 8 → decide (((if b0 then 1 else 0) + (if b1 then 2 else 0) + (if b2 then 4 else 0) + (if b3 then 8 else 0) + (if b4 then 16 else 0) + (if b5 then 32 else 0) + (if b6 then 64 else 0) + (if b7 then 128 else 0)) / 2 ^ k % 2 = 1) = [b0, b1, b2, b3, b4, b5, b6, b7].getD k false := by decide +kernel
theorem bit_of (f : Nat → Bool) (k : Nat) (hk : k < 8) : decide (bitsN f 8 / 2 ^ k % 2 = 1) = f k := by
  have h := bits8 (f 0) (f 1) (f 2) (f 3) (f 4) (f 5) (f 6) (f 7) k hk
  have e : bitsN f 8 = (if f 0 then 1 else 0) + (if f 1 then 2 else 0) + (if f 2 then 4 else 0) + (if f 3 then 8 else 0) + (if f 4 then 16 else 0) + (if f 5 then 32 else 0) + (if f 6 then 64 else 0) + (if f 7 then 128 else 0) := by
    simp only [bitsN, Nat.zero_add]
  rw [e, h]
  rcases k with _ | _ | _ | _ | _ | _ | _ | _ | k
  all_goals first | rfl | (exfalso; omega)
theorem bit_is : ∀ n : Nat, n < 256 → ∀ k : Nat, k < 8 → (bits .and .u64 ((n : Int) / 2 ^ k) 1 == 1) = decide (n / 2 ^ k % 2 = 1) := by decide +kernel
theorem bit_both {a b k : Nat} (ha : a < 256) (hb : b < 256) (hk : k < 8) (h1 : a / 2 ^ k % 2 = 1) (h2 : b / 2 ^ k % 2 = 1) : (bits .and .u64 (bits .and .u64 (a : Int) (b : Int) / 2 ^ k) 1 != 1) = false := by
  rw [bits_and_u64_nat a b (by omega) (by omega)]
  have hlt : a &&& b < 256 := Nat.lt_of_le_of_lt Nat.and_le_left ha
  have h := bit_is (a &&& b) hlt k hk
  have ht : (a &&& b) / 2 ^ k % 2 = 1 := by
    have t1 : a.testBit k = true := by rw [Nat.testBit_eq_decide_div_mod_eq]; exact decide_eq_true h1
    have t2 : b.testBit k = true := by rw [Nat.testBit_eq_decide_div_mod_eq]; exact decide_eq_true h2
    have t3 : (a &&& b).testBit k = true := by rw [Nat.testBit_and, t1, t2]; rfl
    rw [Nat.testBit_eq_decide_div_mod_eq] at t3
    exact of_decide_eq_true t3
  rw [decide_eq_true ht] at h
  show (!(_ == _)) = false
  rw [h]
  rfl
end Go.Proofs.YtlgefljbhbefgaaDoor
