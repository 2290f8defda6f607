/- Clone of windows; New of the program. -/
import Derived.Test.YtnfnhhphoiebbaaDoorFd
import Derived.Test.YtnfnhhphoiebbaaDoorHq
set_option linter.unusedVariables false
set_option linter.unusedSimpArgs false
namespace Go.Proofs.YtnfnhhphoiebbaaDoor
open Go.RowKit
theorem info51 : (Tryd.prog.info? 51).map (fun i => (i.zero, i.size, i.bytes)) = some (some (.agg #[.int .u8 0, .int .u16 0]), 2, 4) := by kernel_rfl
theorem info32 : (Tryd.prog.info? 32).map (fun i => (i.zero, i.size, i.bytes)) = some (some (.int .u64 0), 1, 8) := by kernel_rfl
/-- Windows, cell by cell. -/
def wcells : List Win → List Value
  | [] => []
  | f :: r => .int .u8 f.1 :: .int .u16 f.2 :: wcells r
theorem wcells_len : ∀ l : List Win, (wcells l).length = l.length * 2
  | [] => rfl
  | f :: r => by simp [wcells, wcells_len r]; omega
theorem wcells_one : ∀ (l : List Win) (u : Value), u ∈ wcells l → u.oneCell' = true
  | [], u, h => by simp [wcells] at h
  | f :: r, u, h => by
    simp only [wcells, List.mem_cons] at h
    rcases h with rfl | rfl | h
    · rfl
    · rfl
    · exact wcells_one r u h
theorem wcells_at : ∀ (l : List Win) (k : Nat) (f : Win), l[k]? = some f → (wcells l)[k * 2]? = some (.int .u8 f.1) ∧ (wcells l)[k * 2 + 1]? = some (.int .u16 f.2)
  | [], k, f, h => by simp at h
  | g :: r, 0, f, h => by
    simp at h
    subst h
    exact ⟨rfl, rfl⟩
  | g :: r, k + 1, f, h => by
    have := wcells_at r k f (by simpa using h)
    rw [show (k + 1) * 2 = k * 2 + 1 + 1 by omega]
    simpa [wcells] using this
theorem wcells_of : ∀ (l : List Win) (j : Nat) (u : Value), (wcells l)[j]? = some u → ∃ k f, l[k]? = some f ∧ ((j = k * 2 ∧ u = .int .u8 f.1) ∨ (j = k * 2 + 1 ∧ u = .int .u16 f.2))
  | [], j, u, h => by simp [wcells] at h
  | g :: r, 0, u, h => by
    simp [wcells] at h
    exact ⟨0, g, rfl, .inl ⟨rfl, h.symm⟩⟩
  | g :: r, 1, u, h => by
    simp [wcells] at h
    exact ⟨0, g, rfl, .inr ⟨rfl, h.symm⟩⟩
  | g :: r, j + 2, u, h => by
    obtain ⟨k, f, hk, h⟩ := wcells_of r j u (by simpa [wcells] using h)
    refine ⟨k + 1, f, by simpa using hk, ?_⟩
    rcases h with ⟨h1, h2⟩ | ⟨h1, h2⟩
    · exact .inl ⟨by omega, h2⟩
    · exact .inr ⟨by omega, h2⟩
theorem wins_cells {w : World} {b off len : Nat} {l : List Win} (hf : IsWins w (some ⟨b, off, none⟩) len l) (j : Nat) (u : Value) (h : (wcells l)[j]? = some u) : w.cell? ((⟨b, off, none⟩ : Addr).add j) = some u := by
  obtain ⟨k, f, hk, h⟩ := wcells_of l j u h
  obtain ⟨_, b', off', e, hc⟩ := win_at hf hk
  cases e
  obtain ⟨c0, c1⟩ := hc w (Below.refl _ _)
  have ea : (⟨b, off, none⟩ : Addr).add j = ⟨b, off + j, none⟩ := by
    unfold Addr.add
    split <;> simp_all
  rw [ea]
  rcases h with ⟨rfl, rfl⟩ | ⟨rfl, rfl⟩
  · exact c0
  · rw [← Nat.add_assoc]; exact c1
theorem wins_bound {w : World} {a : Option Addr} {len : Nat} {l : List Win} (hf : IsWins w a len l) : ∀ (k : Nat) (f : Win), l[k]? = some f → f.1 < 256 ∧ f.2 < 65536 := fun k f hk => (win_at hf hk).1
theorem own_wins {w : World} {base cap : Nat} {a : Option Addr} {l : List Win} (h : w.ownsRow base 51 2 (.slice a l.length cap) l.length (wcells l)) (hb : ∀ (k : Nat) (f : Win), l[k]? = some f → f.1 < 256 ∧ f.2 < 65536) : IsWins w a l.length l := ⟨rfl, fun k f hk => by
  obtain ⟨h1, h2⟩ := h
  have hkl := (List.getElem?_eq_some_iff.1 hk).1
  rcases h2 with ⟨e, h0⟩ | ⟨g, cap', cur, e, hg, hh, hn, hm, hc, ht⟩
  · omega
  · cases e
    have hbx : Box w g 51 cur := hh
    obtain ⟨c0, c1⟩ := wcells_at l k f hk
    rw [← ht, List.getElem?_take] at c0 c1
    rw [if_pos (by omega), Array.getElem?_toList] at c0 c1
    exact ⟨g, 0, rfl, hbx.inHeap, by rw [Nat.zero_add]; exact (hbx.read _).trans c0, by rw [Nat.zero_add]; exact (hbx.read _).trans c1, hb k f hk⟩⟩
theorem own_ge {w : World} {base n size : Nat} {e : TypeId} {v : Value} {xs : List Value} (h : w.ownsRow base e size v n xs) : ∀ k, v.ownBlock = some k → base ≤ k := fun k hk => (h.lt k hk).1
theorem own_sl {w : World} {base n size : Nat} {e : TypeId} {v : Value} {xs : List Value} (h : w.ownsRow base e size v n xs) : ∃ a cap, v = .slice a n cap ∧ (0 < n → ∃ g, a = some ⟨g, 0, none⟩) := by
  rcases h.2 with ⟨rfl, rfl⟩ | ⟨g, cap, cur, rfl, _⟩
  · exact ⟨_, _, rfl, fun h => absurd h (Nat.lt_irrefl _)⟩
  · exact ⟨_, _, rfl, fun _ => ⟨g, rfl⟩⟩
theorem not_nil (b off n cap : Nat) (wx : World) : (binOp .eql 22 (.slice (some ⟨b, off, none⟩) n cap) (.slice none 0 0)).run Tryd.prog wx = .ok (.bool false) wx := by
  first
    | rfl
    | (simp [binOp, run_underlying Tryd.underlying22, go_sem]; done)
    | (unfold binOp; simp [run_underlying Tryd.underlying22, go_sem])
theorem clone_any (b off n cap : Nat) (l : List Win) (w : World) (hn : n ≤ 32) (hf : IsWins w (some ⟨b, off, none⟩) n l) : Calls Tryd.prog 23 #[.slice (some ⟨b, off, none⟩) n cap] w fun e w' => ∃ v, e = .returned v ∧ w'.ownsRow w.heap.size 51 2 v l.length (wcells l) ∧ Below w.heap.size w w' := by
  obtain ⟨i0, hi, iz0, iz1, iz2⟩ := info_parts info51
  have hl := hf.1
  have HF := Lib.hid hf
  have HL := Lib.hid hl
  clear hf hl
  have hnil := not_nil b off n cap
  go_enter Tryd.func23, Tryd.ntmps23
  go_wp2_with (at_builtin; go_loud (refine wpList_append_own _ rfl _ _ 22 rfl w.heap.size 51 i0 (.agg #[.int .u8 0, .int .u16 0]) 2 4 Tryd.underlying22 hi iz0 iz1 iz2 rfl (by decide) _ 0 [] rfl ?c0 ⟨b, off, none⟩ n cap (wcells l) rfl ?c1 ?c2 ?c3 ?c4 ?c5 ?c6 ?_))
  case c0 => exact ⟨rfl, .inr ⟨w.heap.size, 0, #[], rfl, Nat.le_refl _, heap_alloc_new w _, Nat.le_refl _, by unfold maxLen; omega, rfl, rfl⟩⟩
  case c1 => rw [wcells_len, HL.out]
  case c2 => intro j u hj; exact wins_cells (HF.out.later ((Below.refl _ _).alloc (Nat.le_refl _) _)) j u hj
  case c3 => exact wcells_one l
  case c4 => unfold maxLen; omega
  case c5 => omega
  case c6 => simp
  rintro v w' hown hg -
  have hbel : Below w.heap.size w w' := ((Below.refl _ w).alloc (Nat.le_refl _) _).grown hg (by simp) (fun k hk => by simp [Value.ownBlock] at hk; omega)
  go_wp2
  go_ret
  exact ⟨_, rfl, by rw [HL.out]; simpa using hown, hbel⟩
end Go.Proofs.YtnfnhhphoiebbaaDoor
