/- The document's PLIC: its cells. -/
import Derived.Test.YtlgefljbhbefgaaDoorPa
set_option linter.unusedVariables false
set_option linter.unusedSimpArgs false
namespace Go.Proofs.YtlgefljbhbefgaaDoor
open Go.RowKit
/-- How the document's sources and contexts stand. -/
structure DS where
  pr : Nat → Nat
  hi : Nat → Bool
  pe : Nat → Bool
  se : Nat → Bool
  en : Nat → Nat → Bool
  th : Nat → Nat
/-- The document's, by the program's. -/
def PS.doc (s : PS) : DS := ⟨s.pr, s.hi, s.pe, s.se, s.on, s.th⟩
def upd2 (f : Nat → Nat → Bool) (c i : Nat) (x : Bool) (b k : Nat) : Bool := if b = c ∧ k = i then x else f b k
/-- The cells of one. -/
def dpl (d : DS) : Array Value := #[.int .i64 (d.pr 0), .int .i64 (d.pr 1), .int .i64 (d.pr 2), .int .i64 (d.pr 3), .int .i64 (d.pr 4), .int .i64 (d.pr 5), .int .i64 (d.pr 6), .int .i64 (d.pr 7), .bool (d.hi 0), .bool (d.hi 1), .bool (d.hi 2), .bool (d.hi 3), .bool (d.hi 4), .bool (d.hi 5), .bool (d.hi 6), .bool (d.hi 7), .bool (d.pe 0), .bool (d.pe 1), .bool (d.pe 2), .bool (d.pe 3), .bool (d.pe 4), .bool (d.pe 5), .bool (d.pe 6), .bool (d.pe 7), .bool (d.se 0), .bool (d.se 1), .bool (d.se 2), .bool (d.se 3), .bool (d.se 4), .bool (d.se 5), .bool (d.se 6), .bool (d.se 7), .bool (d.en 0 0), .bool (d.en 0 1), .bool (d.en 0 2), .bool (d.en 0 3), .bool (d.en 0 4), .bool (d.en 0 5), .bool (d.en 0 6), .bool (d.en 0 7), .bool (d.en 1 0), .bool (d.en 1 1), .bool (d.en 1 2), .bool (d.en 1 3), .bool (d.en 1 4), .bool (d.en 1 5), .bool (d.en 1 6), .bool (d.en 1 7), .int .i64 (d.th 0), .int .i64 (d.th 1)]
theorem dpr_at (d : DS) : ∀ i : Nat, i < 8 → (dpl d)[i]? = some (.int .i64 (d.pr i))
  | 0, _ => rfl
  | 1, _ => rfl
  | 2, _ => rfl
  | 3, _ => rfl
  | 4, _ => rfl
  | 5, _ => rfl
  | 6, _ => rfl
  | 7, _ => rfl
  | k + 8, h => absurd h (by omega)
theorem dpr_put (d : DS) (x : Nat) : ∀ i : Nat, i < 8 → (dpl d).setIfInBounds (i) (.int .i64 (x : Int)) = dpl { d with pr := upd d.pr i x }
  | 0, _ => by kernel_rfl
  | 1, _ => by kernel_rfl
  | 2, _ => by kernel_rfl
  | 3, _ => by kernel_rfl
  | 4, _ => by kernel_rfl
  | 5, _ => by kernel_rfl
  | 6, _ => by kernel_rfl
  | 7, _ => by kernel_rfl
  | k + 8, h => absurd h (by omega)
theorem dhi_at (d : DS) : ∀ i : Nat, i < 8 → (dpl d)[8 + i]? = some (.bool (d.hi i))
  | 0, _ => rfl
  | 1, _ => rfl
  | 2, _ => rfl
  | 3, _ => rfl
  | 4, _ => rfl
  | 5, _ => rfl
  | 6, _ => rfl
  | 7, _ => rfl
  | k + 8, h => absurd h (by omega)
theorem dhi_put (d : DS) (x : Bool) : ∀ i : Nat, i < 8 → (dpl d).setIfInBounds (8 + i) (.bool x) = dpl { d with hi := upd d.hi i x }
  | 0, _ => by kernel_rfl
  | 1, _ => by kernel_rfl
  | 2, _ => by kernel_rfl
  | 3, _ => by kernel_rfl
  | 4, _ => by kernel_rfl
  | 5, _ => by kernel_rfl
  | 6, _ => by kernel_rfl
  | 7, _ => by kernel_rfl
  | k + 8, h => absurd h (by omega)
theorem dpe_at (d : DS) : ∀ i : Nat, i < 8 → (dpl d)[16 + i]? = some (.bool (d.pe i))
  | 0, _ => rfl
  | 1, _ => rfl
  | 2, _ => rfl
  | 3, _ => rfl
  | 4, _ => rfl
  | 5, _ => rfl
  | 6, _ => rfl
  | 7, _ => rfl
  | k + 8, h => absurd h (by omega)
theorem dpe_put (d : DS) (x : Bool) : ∀ i : Nat, i < 8 → (dpl d).setIfInBounds (16 + i) (.bool x) = dpl { d with pe := upd d.pe i x }
  | 0, _ => by kernel_rfl
  | 1, _ => by kernel_rfl
  | 2, _ => by kernel_rfl
  | 3, _ => by kernel_rfl
  | 4, _ => by kernel_rfl
  | 5, _ => by kernel_rfl
  | 6, _ => by kernel_rfl
  | 7, _ => by kernel_rfl
  | k + 8, h => absurd h (by omega)
theorem dse_at (d : DS) : ∀ i : Nat, i < 8 → (dpl d)[24 + i]? = some (.bool (d.se i))
  | 0, _ => rfl
  | 1, _ => rfl
  | 2, _ => rfl
  | 3, _ => rfl
  | 4, _ => rfl
  | 5, _ => rfl
  | 6, _ => rfl
  | 7, _ => rfl
  | k + 8, h => absurd h (by omega)
theorem dse_put (d : DS) (x : Bool) : ∀ i : Nat, i < 8 → (dpl d).setIfInBounds (24 + i) (.bool x) = dpl { d with se := upd d.se i x }
  | 0, _ => by kernel_rfl
  | 1, _ => by kernel_rfl
  | 2, _ => by kernel_rfl
  | 3, _ => by kernel_rfl
  | 4, _ => by kernel_rfl
  | 5, _ => by kernel_rfl
  | 6, _ => by kernel_rfl
  | 7, _ => by kernel_rfl
  | k + 8, h => absurd h (by omega)
theorem dth_at (d : DS) : ∀ i : Nat, i < 2 → (dpl d)[48 + i]? = some (.int .i64 (d.th i))
  | 0, _ => rfl
  | 1, _ => rfl
  | k + 2, h => absurd h (by omega)
theorem dth_put (d : DS) (x : Nat) : ∀ i : Nat, i < 2 → (dpl d).setIfInBounds (48 + i) (.int .i64 (x : Int)) = dpl { d with th := upd d.th i x }
  | 0, _ => by kernel_rfl
  | 1, _ => by kernel_rfl
  | k + 2, h => absurd h (by omega)
theorem den_at (d : DS) : ∀ c : Nat, c < 2 → ∀ i : Nat, i < 8 → (dpl d)[32 + c * 8 + i]? = some (.bool (d.en c i))
  | 0, _, 0, _ => rfl
  | 0, _, 1, _ => rfl
  | 0, _, 2, _ => rfl
  | 0, _, 3, _ => rfl
  | 0, _, 4, _ => rfl
  | 0, _, 5, _ => rfl
  | 0, _, 6, _ => rfl
  | 0, _, 7, _ => rfl
  | 1, _, 0, _ => rfl
  | 1, _, 1, _ => rfl
  | 1, _, 2, _ => rfl
  | 1, _, 3, _ => rfl
  | 1, _, 4, _ => rfl
  | 1, _, 5, _ => rfl
  | 1, _, 6, _ => rfl
  | 1, _, 7, _ => rfl
  | k + 2, h, _, _ => absurd h (by omega)
  | 0, _, k + 8, h => absurd h (by omega)
  | 1, _, k + 8, h => absurd h (by omega)
theorem den_put (d : DS) (x : Bool) : ∀ c : Nat, c < 2 → ∀ i : Nat, i < 8 → (dpl d).setIfInBounds (32 + c * 8 + i) (.bool x) = dpl { d with en := upd2 d.en c i x }
  | 0, _, 0, _ => by kernel_rfl
  | 0, _, 1, _ => by kernel_rfl
  | 0, _, 2, _ => by kernel_rfl
  | 0, _, 3, _ => by kernel_rfl
  | 0, _, 4, _ => by kernel_rfl
  | 0, _, 5, _ => by kernel_rfl
  | 0, _, 6, _ => by kernel_rfl
  | 0, _, 7, _ => by kernel_rfl
  | 1, _, 0, _ => by kernel_rfl
  | 1, _, 1, _ => by kernel_rfl
  | 1, _, 2, _ => by kernel_rfl
  | 1, _, 3, _ => by kernel_rfl
  | 1, _, 4, _ => by kernel_rfl
  | 1, _, 5, _ => by kernel_rfl
  | 1, _, 6, _ => by kernel_rfl
  | 1, _, 7, _ => by kernel_rfl
  | k + 2, h, _, _ => absurd h (by omega)
  | 0, _, k + 8, h => absurd h (by omega)
  | 1, _, k + 8, h => absurd h (by omega)
/-- The same cells, where all that they show is the same. -/
theorem dpl_congr {d e : DS} (h1 : ∀ i, i < 8 → d.pr i = e.pr i ∧ d.hi i = e.hi i ∧ d.pe i = e.pe i ∧ d.se i = e.se i) (h2 : ∀ c, c < 2 → d.th c = e.th c ∧ ∀ i, i < 8 → d.en c i = e.en c i) : dpl d = dpl e := by
  unfold dpl
  simp only [(h1 0 (by decide)).1, (h1 0 (by decide)).2.1, (h1 0 (by decide)).2.2.1, (h1 0 (by decide)).2.2.2, (h1 1 (by decide)).1, (h1 1 (by decide)).2.1, (h1 1 (by decide)).2.2.1, (h1 1 (by decide)).2.2.2, (h1 2 (by decide)).1, (h1 2 (by decide)).2.1, (h1 2 (by decide)).2.2.1, (h1 2 (by decide)).2.2.2, (h1 3 (by decide)).1, (h1 3 (by decide)).2.1, (h1 3 (by decide)).2.2.1, (h1 3 (by decide)).2.2.2, (h1 4 (by decide)).1, (h1 4 (by decide)).2.1, (h1 4 (by decide)).2.2.1, (h1 4 (by decide)).2.2.2, (h1 5 (by decide)).1, (h1 5 (by decide)).2.1, (h1 5 (by decide)).2.2.1, (h1 5 (by decide)).2.2.2, (h1 6 (by decide)).1, (h1 6 (by decide)).2.1, (h1 6 (by decide)).2.2.1, (h1 6 (by decide)).2.2.2, (h1 7 (by decide)).1, (h1 7 (by decide)).2.1, (h1 7 (by decide)).2.2.1, (h1 7 (by decide)).2.2.2, (h2 0 (by decide)).1, (h2 1 (by decide)).1, (h2 0 (by decide)).2 0 (by decide), (h2 0 (by decide)).2 1 (by decide), (h2 0 (by decide)).2 2 (by decide), (h2 0 (by decide)).2 3 (by decide), (h2 0 (by decide)).2 4 (by decide), (h2 0 (by decide)).2 5 (by decide), (h2 0 (by decide)).2 6 (by decide), (h2 0 (by decide)).2 7 (by decide), (h2 1 (by decide)).2 0 (by decide), (h2 1 (by decide)).2 1 (by decide), (h2 1 (by decide)).2 2 (by decide), (h2 1 (by decide)).2 3 (by decide), (h2 1 (by decide)).2 4 (by decide), (h2 1 (by decide)).2 5 (by decide), (h2 1 (by decide)).2 6 (by decide), (h2 1 (by decide)).2 7 (by decide)]
/-- There is no source 0, to no context either. -/
structure PS.ok2 (s : PS) : Prop where
  ok : s.ok
  en0 : ∀ c, s.en c % 2 = 0
theorem PS.zero_ok2 : PS.zero.ok2 := ⟨PS.zero_ok, fun _ => rfl⟩
theorem PS.ok2.raise {s : PS} (h : s.ok2) {n : Nat} (hn : 1 ≤ n) (b : Bool) : (s.raise n b).ok2 := ⟨h.ok.raise hn b, h.en0⟩
theorem PS.ok2.claim {s : PS} (h : s.ok2) (c : Nat) : (s.claim c).ok2 := ⟨h.ok.claim c, by unfold PS.claim; split <;> exact h.en0⟩
theorem PS.ok2.done {s : PS} (h : s.ok2) (c v : Nat) : (s.done c v).ok2 := ⟨h.ok.done c v, by unfold PS.done; split <;> exact h.en0⟩
theorem PS.ok2.setEn {s : PS} (h : s.ok2) (c v : Nat) : (s.setEn c v).ok2 := ⟨h.ok.setEn c v, fun i => by
  show upd s.en c (v % 256 - v % 2) i % 2 = 0
  by_cases e : i = c
  · subst e; rw [upd_at]; omega
  · rw [upd_ne _ _ e]; exact h.en0 i⟩
theorem PS.ok2.rd {s : PS} (h : s.ok2) (off : Nat) : (s.rd off).2.ok2 := by
  unfold PS.rd
  repeat' split
  all_goals first | exact h | exact h.claim _
theorem PS.ok2.wr {s : PS} (h : s.ok2) (off v : Nat) : (s.wr off v).ok2 := by
  unfold PS.wr
  split
  · rename_i hn
    exact ⟨h.ok.setPr hn.1 v, h.en0⟩
  · repeat' split
    all_goals first | exact h | exact h.setEn _ _ | exact ⟨h.ok.setTh _ _, h.en0⟩ | exact h.done _ _
end Go.Proofs.YtlgefljbhbefgaaDoor
