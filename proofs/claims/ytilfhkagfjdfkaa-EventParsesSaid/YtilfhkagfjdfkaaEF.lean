/- of: a guest's events. -/
import Derived.Test.YtilfhkagfjdfkaaEE
set_option linter.unusedVariables false
set_option linter.unusedSimpArgs false
namespace Go.Proofs.Ytilfhkagfjdfkaa
open Go.RowKit
attribute [local go_sem] Oper.semAt_some
/-- Those of a guest. -/
def ofG (l : List Ev) (g : Nat) : List Ev := l.filter fun e => decide (e.g = g)
theorem ofG_snoc (l : List Ev) (e : Ev) (g : Nat) : ofG (l ++ [e]) g = if e.g = g then ofG l g ++ [e] else ofG l g := by
  unfold ofG
  rw [List.filter_append]
  by_cases h : e.g = g
  · simp [h]
  · simp [h]
theorem ofG_len (l : List Ev) (g : Nat) : (ofG l g).length ≤ l.length := List.length_filter_le _ _
theorem ofG_wf {l : List Ev} (h : ∀ e ∈ l, e.wf) (g : Nat) : ∀ e ∈ ofG l g, e.wf := fun e he => h e (List.mem_filter.1 he).1
set_option maxHeartbeats 4000000 in
set_option maxRecDepth 100000 in
theorem guest_any (w : World) (v : Value) (l : List Ev) (h : IsEvs w v l) (hl : l.length ≤ 10000) (g : Nat) (hg : g < 256) : Calls Try.prog 24 #[v, .int .u8 g] w fun e w' => ∃ v', e = .returned v' ∧ IsEvs w' v' (ofG l g) ∧ Below w.heap.size w w' := by
  obtain ⟨i0, hi, iz0, iz1, iz2⟩ := info_parts infoE
  have HV := Lib.hid h
  obtain ⟨a, cap, rfl, hwf, _⟩ := h
  have HW := Lib.hid hwf
  clear hwf
  obtain ⟨len, hlen⟩ : ∃ len, l.length = len := ⟨_, rfl⟩
  rw [hlen]
  have HL := Lib.hid hlen
  have hl2 : len ≤ 10000 := by omega
  clear hlen hl
  go_enter Try.func24, Try.ntmps24
  go_wp2
  go_loopw [5, 6] (fun f i wr => ∃ k : Nat, k ≤ len ∧ i = .int .i64 k ∧ wr.ownsRow w.heap.size 46 4 f (ofG (l.take k) g).length (evs (ofG (l.take k) g)) ∧ Below w.heap.size w wr) (fun _ i _ => len - (intOf i).toNat)
  case atStart => exact ⟨0, Nat.zero_le _, rfl, World.ownsRow_nil _ _ _ _, Below.refl _ _⟩
  case round =>
    obtain ⟨k, hk, rfl, hown, hb⟩ := hrel
    have k1 : (0 : Int) ≤ (k : Int) := Int.natCast_nonneg _
    by_cases hlt : k < len
    · have k2 : (k : Int) < (len : Int) := by omega
      obtain ⟨e, he⟩ : ∃ e, l[k]? = some e := ⟨_, List.getElem?_eq_getElem (by rw [HL.out]; exact hlt)⟩
      obtain ⟨a', cap', hq, _, hc⟩ := HV.out.below hb
      cases hq
      obtain ⟨b, off, rfl, hbb, hr⟩ := hc k e he
      have HR := Lib.hid hr
      have c1 : wr.cell? ⟨b, off + k * 4 + 1, none⟩ = some (.int .u8 e.g) := hr 1 _ rfl
      have HT : Hid (ofG (l.take (k + 1)) g = if e.g = g then ofG (l.take k) g ++ [e] else ofG (l.take k) g) := Lib.hid (by
        rw [List.take_add_one, he]
        exact ofG_snoc _ _ _)
      have hkl : (ofG (l.take k) g).length ≤ 10000 := by
        have h1 := ofG_len (l.take k) g
        have h2 : (l.take k).length ≤ k := by simp; omega
        omega
      have HB := Lib.hid (And.intro hown hb)
      clear hr hown hb hc he
      by_cases hgg : e.g = g
      · have e1 : ((e.g : Int) == (g : Int)) = true := by rw [hgg]; exact beq_self_eq_true _
        have HT2 : Hid (ofG (l.take (k + 1)) g = ofG (l.take k) g ++ [e]) := Lib.hid (by rw [HT.out, if_pos hgg])
        clear HT hgg
        generalize ofG (l.take k) g = K at HT2 hkl HB
        obtain ⟨et, eg, ek, ev⟩ := e
        have HR2 : Hid (wr.rangeAt b (off + k * 4) [.int .u32 et, .int .u8 eg, .int .u8 ek, .int .u32 ev]) := Lib.hid HR.out
        simp only at e1 c1
        go_wp2_with (first
          | (refine wpList_load_mid rfl 46 _ rfl b (off + k * 4) rfl [.int .u32 et, .int .u8 eg, .int .u8 ek, .int .u32 ev] _ HR2.out Try.underlying46 rfl rfl ?_)
          | (at_builtin; go_loud (refine wpList_append_own _ rfl _ _ 23 rfl w.heap.size 46 i0 (.agg #[.int .u32 0, .int .u8 0, .int .u8 0, .int .u32 0]) 4 12 Try.underlying23 hi iz0 iz1 iz2 rfl (by decide) u5 K.length (evs K) rfl (HB.out.1.alloc _) ⟨wr.heap.size, 0, none⟩ 1 1 (evL ⟨et, eg, ek, ev⟩) rfl rfl ?c1 ?c2 ?c3 ?c4 ?c5 ?_)))
        case c1 =>
          intro j u hj2
          rcases j with _ | _ | _ | _ | j
          · simp [evL] at hj2; subst hj2; simp [Addr.add, evL]
          · simp [evL] at hj2; subst hj2; simp [Addr.add, evL]
          · simp [evL] at hj2; subst hj2; simp [Addr.add, evL]
          · simp [evL] at hj2; subst hj2; simp [Addr.add, evL]
          · simp [evL] at hj2
        case c2 => intro u hu; simp [evL] at hu; rcases hu with rfl | rfl | rfl | rfl <;> rfl
        case c3 => unfold maxLen; omega
        case c4 => omega
        case c5 => rw [World.size_alloc]; exact Nat.le_succ_of_le HB.out.2.size
        · intro v' w8 hown' hgrow _
          have H7 : Hid (w8.ownsRow w.heap.size 46 4 v' (K ++ [(⟨et, eg, ek, ev⟩ : Ev)]).length (evs (K ++ [(⟨et, eg, ek, ev⟩ : Ev)])) ∧ Below w.heap.size w w8) := Lib.hid ⟨by
            rw [evs_app, List.length_append]
            have e1 : evs [(⟨et, eg, ek, ev⟩ : Ev)] = evL ⟨et, eg, ek, ev⟩ := by simp [evs]
            rw [e1]
            exact hown', HB.out.2.grown (grow_alloc hgrow) HB.out.2.size (fun i hi => (HB.out.1.lt i hi).1)⟩
          clear hown' hgrow
          go_wp2
          go_roundw
          case rel => exact ⟨k + 1, by omega, by go_num, by rw [HT2.out]; exact H7.out.1, H7.out.2⟩
          case measure => simp [intOf]; omega
      · have e1 : ((e.g : Int) == (g : Int)) = false := beq_eq_false_iff_ne.2 (by omega)
        have HT2 : Hid (ofG (l.take (k + 1)) g = ofG (l.take k) g) := Lib.hid (by rw [HT.out, if_neg hgg])
        clear HT hgg
        go_wp2
        go_roundw
        case rel => exact ⟨k + 1, by omega, by go_num, by rw [HT2.out]; exact HB.out.1, HB.out.2⟩
        case measure => simp [intOf]; omega
    · obtain rfl : k = len := by omega
      have hll : l.take k = l := by rw [← HL.out, List.take_length]
      rw [hll] at hown
      have HO := Lib.hid (And.intro hown hb)
      clear hown hb hll
      go_wp2
      go_ret
      exact ⟨_, rfl, own_evs HO.out.1 (ofG_wf HW.out g), HO.out.2⟩
end Go.Proofs.Ytilfhkagfjdfkaa
