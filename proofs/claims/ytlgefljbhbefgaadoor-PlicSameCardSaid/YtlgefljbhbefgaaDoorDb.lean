/- The document's gates, Raise, Best and Calls. -/
import Derived.Test.YtlgefljbhbefgaaDoorEa
set_option linter.unusedVariables false
set_option linter.unusedSimpArgs false
namespace Go.Proofs.YtlgefljbhbefgaaDoor
open Go.RowKit
attribute [local go_sem] Oper.semAt_some
/-- All high levels, whose gates are open, of the sources below k, come through. -/
def DS.gate (d : DS) (k : Nat) : DS := { d with pe := fun i => if 1 ≤ i ∧ i < k then d.pe i || (d.hi i && !d.se i) else d.pe i }
theorem gate_one (d : DS) : d.gate 1 = d := by
  unfold DS.gate
  congr 1
  funext i
  rw [if_neg (by omega)]
theorem gate_next (d : DS) (k : Nat) (hk : 1 ≤ k) : d.gate (k + 1) = if d.hi k = true ∧ d.se k = false then { d.gate k with pe := upd (d.gate k).pe k true } else d.gate k := by
  by_cases h : d.hi k = true ∧ d.se k = false
  · rw [if_pos h]
    unfold DS.gate
    congr 1
    funext i
    by_cases e : i = k
    · subst e
      rw [upd_at, if_pos ⟨hk, by omega⟩, h.1, h.2]
      simp
    · rw [upd_ne _ _ e]
      show _ = if 1 ≤ i ∧ i < k then d.pe i || (d.hi i && !d.se i) else d.pe i
      by_cases h2 : 1 ≤ i ∧ i < k
      · rw [if_pos ⟨h2.1, by omega⟩, if_pos h2]
      · rw [if_neg (by omega), if_neg h2]
  · rw [if_neg h]
    unfold DS.gate
    congr 1
    funext i
    by_cases e : i = k
    · subst e
      rw [if_pos ⟨hk, by omega⟩, if_neg (by omega)]
      have : (d.hi i && !d.se i) = false := by
        cases h1 : d.hi i <;> cases h2 : d.se i <;> simp_all
      rw [this, Bool.or_false]
    · by_cases h2 : 1 ≤ i ∧ i < k
      · rw [if_pos ⟨h2.1, by omega⟩, if_pos h2]
      · rw [if_neg (by omega), if_neg h2]
section
variable {w : World} {D : Nat} {d : DS}
set_option maxHeartbeats 2000000 in
theorem gates_any (h : Box w D 32 (dpl d)) : Calls Tryd.prog 37 #[.pointer (some ⟨D, 0, none⟩)] w fun e w' => e = .returned (.tuple #[]) ∧ Box w' D 32 (dpl (d.gate 8)) ∧ Only D w w' := by
  have HB := Lib.hid h
  clear h
  go_enter Tryd.func37, Tryd.ntmps37
  go_wp2
  go_loopw [2] (fun i wr => ∃ k : Nat, 1 ≤ k ∧ k ≤ 8 ∧ i = .int .i64 k ∧ Box wr D 32 (dpl (d.gate k)) ∧ Only D w wr) (fun i _ => 8 - (intOf i).toNat)
  case atStart => exact ⟨1, by omega, by omega, rfl, by rw [gate_one]; exact HB.out, Only.refl _ _⟩
  case round =>
    obtain ⟨k, hk1, hk, rfl, hb, hoo⟩ := hrel
    have k1 : (0 : Int) ≤ (k : Int) := Int.natCast_nonneg _
    by_cases hlt : k < 8
    · have k2 : (k : Int) < 8 := by omega
      have c1 : wr.cell? ⟨D, 8 + k, none⟩ = some (.bool (d.hi k)) := (hb.read _).trans (dhi_at (d.gate k) k hlt)
      have c2 : wr.cell? ⟨D, 16 + k, none⟩ = some (.bool ((d.gate k).pe k)) := (hb.read _).trans (dpe_at (d.gate k) k hlt)
      have c3 : wr.cell? ⟨D, 24 + k, none⟩ = some (.bool (d.se k)) := (hb.read _).trans (dse_at (d.gate k) k hlt)
      have f2 := hb.warm (16 + k)
      have HP := Lib.hid (hb.put (16 + k) (.bool true))
      rw [dpe_put (d.gate k) true k hlt] at HP
      have HG := Lib.hid (gate_next d k hk1)
      have HBB := Lib.hid (And.intro hb hoo)
      clear hb hoo
      have hhi : d.hi k = d.hi k := rfl
      generalize d.hi k = a at c1 HG
      generalize d.se k = b at c3 HG
      cases a <;> cases b
      · go_wp2
        go_roundw
        case rel => exact ⟨k + 1, by omega, by omega, by go_num, by rw [HG.out]; exact HBB.out.1, HBB.out.2⟩
        case measure => simp [intOf]; omega
      · go_wp2
        go_roundw
        case rel => exact ⟨k + 1, by omega, by omega, by go_num, by rw [HG.out]; exact HBB.out.1, HBB.out.2⟩
        case measure => simp [intOf]; omega
      · go_wp2
        go_roundw
        case rel => exact ⟨k + 1, by omega, by omega, by go_num, by rw [HG.out]; exact HP.out, HBB.out.2.put (p := ⟨D, 16 + k, none⟩) (.inl rfl) _⟩
        case measure => simp [intOf]; omega
      · go_wp2
        go_roundw
        case rel => exact ⟨k + 1, by omega, by omega, by go_num, by rw [HG.out]; exact HBB.out.1, HBB.out.2⟩
        case measure => simp [intOf]; omega
    · obtain rfl : k = 8 := by omega
      have HBB := Lib.hid (And.intro hb hoo)
      clear hb hoo
      go_wp2
      go_end0
      exact ⟨rfl, HBB.out.1, HBB.out.2⟩
/-- Gates behind a change of one source. -/
theorem gates_raise {s : PS} (ok : s.ok) (n : Nat) (hn : 1 ≤ n) (h8 : n < 8) (b : Bool) : dpl (({ s.doc with hi := upd s.hi n b } : DS).gate 8) = dpl (s.raise n b).doc := by
  refine dpl_congr (fun i hi => ⟨rfl, rfl, ?_, rfl⟩) (fun c hc => ⟨rfl, fun i hi => rfl⟩)
  show (if 1 ≤ i ∧ i < 8 then s.pe i || (upd s.hi n b i && !s.se i) else s.pe i) = (if b = true ∧ s.se n = false then upd s.pe n true else s.pe) i
  by_cases e : i = n
  · subst e
    rw [if_pos ⟨hn, h8⟩, upd_at]
    cases b <;> cases h1 : s.se i <;> simp [upd_at]
  · rw [upd_ne _ _ e]
    have e2 : (if b = true ∧ s.se n = false then upd s.pe n true else s.pe) i = s.pe i := by
      split
      · exact upd_ne _ _ e
      · rfl
    rw [e2]
    split
    · have := ok.gate i
      cases h1 : s.hi i <;> cases h2 : s.se i <;> cases h3 : s.pe i <;> simp_all
    · rfl
theorem gates_done {s : PS} (ok : s.ok) (c v : Nat) (h1 : 1 ≤ v) (h8 : v < 8) (hon : s.on c v = true) : dpl (({ s.doc with se := upd s.se v false } : DS).gate 8) = dpl (s.done c v).doc := by
  by_cases hs : s.se v = true
  · have e : s.done c v = { s with se := upd s.se v false, pe := if s.hi v = true then upd s.pe v true else s.pe } := by rw [PS.done, if_pos ⟨h1, h8, hon, hs⟩]
    rw [e]
    refine dpl_congr (fun i hi => ⟨rfl, rfl, ?_, rfl⟩) (fun c hc => ⟨rfl, fun i hi => rfl⟩)
    show (if 1 ≤ i ∧ i < 8 then s.pe i || (s.hi i && !upd s.se v false i) else s.pe i) = (if s.hi v = true then upd s.pe v true else s.pe) i
    by_cases e : i = v
    · subst e
      rw [if_pos ⟨h1, h8⟩, upd_at]
      cases h1 : s.hi i <;> simp [upd_at]
    · rw [upd_ne _ _ e]
      have e2 : (if s.hi v = true then upd s.pe v true else s.pe) i = s.pe i := by
        split
        · exact upd_ne _ _ e
        · rfl
      rw [e2]
      split
      · have := ok.gate i
        cases h1 : s.hi i <;> cases h2 : s.se i <;> cases h3 : s.pe i <;> simp_all
      · rfl
  · have hs2 : s.se v = false := Bool.eq_false_iff.2 hs
    have e : s.done c v = s := by rw [PS.done, if_neg (fun h => hs h.2.2.2)]
    rw [e]
    refine dpl_congr (fun i hi => ⟨rfl, rfl, ?_, ?_⟩) (fun c hc => ⟨rfl, fun i hi => rfl⟩)
    · show (if 1 ≤ i ∧ i < 8 then s.pe i || (s.hi i && !upd s.se v false i) else s.pe i) = s.pe i
      have e3 : upd s.se v false i = s.se i := by
        by_cases e : i = v
        · subst e; rw [upd_at, hs2]
        · exact upd_ne _ _ e
      rw [e3]
      split
      · have := ok.gate i
        cases h1 : s.hi i <;> cases h2 : s.se i <;> cases h3 : s.pe i <;> simp_all
      · rfl
    · show upd s.se v false i = s.se i
      by_cases e : i = v
      · subst e; rw [upd_at, hs2]
      · exact upd_ne _ _ e
end
section
variable {w : World} {D : Nat} {s : PS}
theorem draise_any (h : Box w D 32 (dpl s.doc)) (ok : s.ok) (n : Int) (b : Bool) : Calls Tryd.prog 25 #[.pointer (some ⟨D, 0, none⟩), .int .i64 n, .bool b] w fun e w' => e = .returned (.int .i64 (errI n)) ∧ Box w' D 32 (dpl (s.raiseI n b).doc) ∧ Only D w w' := by
  unfold errI PS.raiseI
  by_cases hn : 1 ≤ n ∧ n < 8
  · rw [if_pos hn, if_pos hn]
    obtain ⟨k, rfl⟩ : ∃ k : Nat, n = k := ⟨n.toNat, by omega⟩
    have k1 : 1 ≤ k := by omega
    have k8 : k < 8 := by omega
    have n1 : ¬ (k : Int) < 1 := by omega
    have n2 : ¬ 7 < (k : Int) := by omega
    have n3 : (k : Int) < 8 := by omega
    have n4 : (0 : Int) ≤ (k : Int) := by omega
    have c1 : w.cell? ⟨D, 8 + k, none⟩ = some (.bool (s.hi k)) := (h.read _).trans (dhi_at s.doc k k8)
    have f1 := h.warm (8 + k)
    have HP := h.put (8 + k) (.bool b)
    rw [dhi_put s.doc b k k8] at HP
    have HT := Lib.hid (gates_any HP)
    have HO := Lib.hid ((Only.refl D w).put (p := ⟨D, 8 + k, none⟩) (.inl rfl) (.bool b))
    have HG := Lib.hid (gates_raise ok k k1 k8 b)
    clear h hn HP ok
    go_enter Tryd.func25, Tryd.ntmps25
    go_wp2_with (go_at_call 37; refine HT.out.mono ?_; rintro e w' ⟨rfl, hb, ho⟩; have HR := Lib.hid (And.intro hb ho); clear hb ho)
    go_ret
    exact ⟨rfl, by rw [Int.toNat_natCast, ← HG.out]; exact HR.out.1, HO.out.trans HR.out.2⟩
  · rw [if_neg hn, if_neg hn]
    have HB := Lib.hid h
    clear h
    by_cases h1 : n < 1
    · clear hn
      go_enter Tryd.func25, Tryd.ntmps25
      go_wp2
      go_ret
      exact ⟨rfl, HB.out, Only.refl _ _⟩
    · have h7 : 7 < n := by omega
      clear hn
      go_enter Tryd.func25, Tryd.ntmps25
      go_wp2
      go_ret
      exact ⟨rfl, HB.out, Only.refl _ _⟩
end
end Go.Proofs.YtlgefljbhbefgaaDoor
