/- The program's hex. -/
import Derived.Test.YtgicehhenahfpaaDoorTa
import Derived.Test.YtgicehhenahfpaaDoorHp
set_option linter.unusedVariables false
set_option linter.unusedSimpArgs false
namespace Go.Proofs.YtgicehhenahfpaaDoor
open Go.RowKit
attribute [local go_sem] Oper.semAt_some
theorem info5 : (Tryd.prog.info? 5).map (fun i => (i.zero, i.size, i.bytes)) = some (some (.int .u8 0), 1, 1) := by kernel_rfl
/-- Bytes as cells. -/
def bv (l : List UInt8) : List Value := l.map fun c => .int .u8 (c.toNat : Int)
theorem bv_len (l : List UInt8) : (bv l).length = l.length := by simp [bv]
theorem bv_app (a b : List UInt8) : bv (a ++ b) = bv a ++ bv b := by simp [bv]
theorem dix_at : ∀ q, (h : q < 16) → digs[q]'(h) = hx q := by decide +kernel
theorem dixs (q : Nat) (h : q < 16) (wx : World) : (Instr.index 9 (.string digs) (.int .u8 q)).run Tryd.prog wx = .ok (.int .u8 (hx q).toNat) wx := by
  rw [run_index_string (h := Tryd.underlying9), dif_pos ⟨by omega, by show (q : Int) < 16; omega⟩]
  have : digs[(q : Int).toNat]'(by show (q : Int).toNat < 16; omega) = hx q := dix_at q h
  rw [this]
theorem and15 : ∀ c : Nat, c < 256 → bits .and .u8 (c : Int) 15 = ((c % 16 : Nat) : Int) := by decide +kernel
set_option maxHeartbeats 2000000 in
theorem phex_any (s : ByteArray) (hs : s.size ≤ 1048576) (w : World) : Calls Tryd.prog 28 #[.string s] w fun e w' => e = .returned (.string (st (hexT s.data.toList))) ∧ Below w.heap.size w w' := by
  have hsl : s.data.toList.length = s.size := Array.length_toList
  by_cases h0 : s.data.toList = []
  · have HE : Hid (st (hexT s.data.toList) = ⟨#[45]⟩) := Lib.hid (by rw [h0]; rfl)
    have hz : s = ⟨#[]⟩ := by
      apply ByteArray.ext
      exact Array.toList_inj.1 h0
    rw [HE.out, hz]
    clear h0 hsl HE hz hs
    go_enter Tryd.func28, Tryd.ntmps28
    go_wp2
    go_ret
    exact ⟨rfl, Below.refl _ _⟩
  · have hne : 0 < s.size := by have := List.length_pos_iff.2 h0; omega
    have hz : s.toList.isEmpty = false := by
      rw [ByteArray.toList_eq]
      cases hx : s.data.toList with
      | nil => exact absurd hx h0
      | cons a b => rfl
    have HE : Hid (hexT s.data.toList = hexL s.data.toList) := Lib.hid (by unfold hexT; rw [if_neg h0])
    rw [HE.out]
    clear h0
    go_enter Tryd.func28, Tryd.ntmps28
    go_wp2
    go_loopw [3, 9] (fun x i wr => ∃ k : Nat, k ≤ s.size ∧ i = .int .i64 k ∧ Lane wr 5 x (bv (hexL (s.data.toList.take k))) ∧ (∀ b, x.ownBlock = some b → w.heap.size ≤ b) ∧ Below w.heap.size w wr) (fun _ i _ => s.size - (intOf i).toNat)
    case atStart => exact ⟨0, Nat.zero_le _, rfl, Lane.nil _ _, fun b hb => by simp [Value.ownBlock] at hb, Below.refl _ _⟩
    case round =>
      obtain ⟨k, hk, rfl, hl, hf, hB⟩ := hrel
      have k1 : (0 : Int) ≤ (k : Int) := Int.natCast_nonneg _
      obtain ⟨xa, xn, xc, rfl⟩ : ∃ a n c, u3 = .slice a n c := by
        obtain ⟨a, c, h, _⟩ := hl.shape
        exact ⟨a, _, c, h⟩
      by_cases hlt : k < s.size
      · obtain ⟨c, hc⟩ : ∃ c, s.data.toList[k]? = some c := ⟨_, List.getElem?_eq_getElem (by omega)⟩
        have hcl := UInt8.toNat_lt c
        have r1 := ix_at s k c hc
        have HT : Hid (s.data.toList.take (k + 1) = s.data.toList.take k ++ [c]) := Lib.hid (by rw [List.take_add_one, hc]; rfl)
        have hln : (hexL (s.data.toList.take k)).length ≤ 2097152 := by rw [hexL_len, List.length_take]; omega
        have k2 : (k : Int) < (s.size : Int) := by omega
        obtain ⟨q, hq, hdv⟩ : ∃ q : Nat, q = c.toNat / 16 ∧ (c.toNat : Int) / 16 = (q : Int) := ⟨_, rfl, rfl⟩
        obtain ⟨r, hr, hmd⟩ : ∃ r : Nat, r = c.toNat % 16 ∧ (c.toNat : Int) % 16 = (r : Int) := ⟨_, rfl, rfl⟩
        have hq16 : q < 16 := by omega
        have hr16 : r < 16 := by omega
        have hand : bits .and .u8 (c.toNat : Int) 15 = (r : Int) := by rw [and15 c.toNat hcl, hr]
        have s1 := dixs q hq16
        have s2 := dixs r hr16
        have HL := Lib.hid hl
        have HF := Lib.hid hf
        have HB := Lib.hid hB
        have HQ := Lib.hid (And.intro hq hr)
        clear hl hf hB hc hq hr
        go_wp2
        refine wp_region_calm (fun W => True)
          (.e 0 :: .e 0 :: .e 0 :: .e 0 :: .e 0 :: .e 0 :: .e 0 :: .e 0 :: .e 0 :: .e 0 :: .e 0 :: .l 0 :: .l 0 :: .e 0 :: []) (by kernel_rfl) (by kernel_rfl) (by kernel_rfl) (by kernel_rfl) ?_
        repeat (refine mv_take0 (v := ?_) (by rfl) trivial ?_ ?_; rotate_left 1; (focus (intro w hSw; go_simp; (try with_reducible rfl); done)); (try simp only [Act.put, List.setIfInBounds_toArray, List.set_cons_zero, List.set_cons_succ]))
        refine mv_loud0 (by rfl) (fun K2 hK => ?_)
        go_simp
        refine hK.out _ _ trivial ?_
        clear hK K2
        (try simp only [Act.put, List.setIfInBounds_toArray, List.set_cons_zero, List.set_cons_succ])
        refine mv_loud0 (by rfl) (fun K2 hK => ?_)
        have T1 : Hid (Below wr.heap.size wr (wr.alloc (.cells #[.int .u8 ((hx q).toNat : Int), .int .u8 ((hx r).toNat : Int)] 5)).drew) := Lib.hid ((Below.refl _ _).alloc (Nat.le_refl _) _).drew
        have hla := HL.out.below T1.out (Nat.le_refl _)
        have hli := (Lane.lit wr 5 #[.int .u8 ((hx q).toNat : Int), .int .u8 ((hx r).toNat : Int)] (by simp [maxLen])).drawn1
        obtain ⟨i0, hi, iz0, iz1, iz2⟩ := info_parts info5
        refine wp_append_lane _ _ 69 rfl 5 i0 (.int .u8 0) 1 Tryd.underlying69 hi iz0 iz1 iz2 rfl (.slice xa xn xc) (.slice (some ⟨wr.heap.size, 0, none⟩) 2 2) (bv (hexL (s.data.toList.take k))) [.int .u8 ((hx q).toNat : Int), .int .u8 ((hx r).toNat : Int)] rfl rfl hla hli ?c1 ?c2 ?c3 ?_
        case c1 => intro u hu; simp at hu; rcases hu with rfl | rfl <;> rfl
        case c2 => rw [bv_len]; simp [maxLen]; omega
        case c3 => rw [bv_len]; simp; omega
        intro v2 w5 hl2 hg2 hb2
        have HN : Hid (Lane w5 5 v2 (bv (hexL (s.data.toList.take (k + 1)))) ∧ (∀ b, v2.ownBlock = some b → w.heap.size ≤ b) ∧ Below w.heap.size w w5) := Lib.hid ⟨by
            have e : hexL (s.data.toList.take (k + 1)) = hexL (s.data.toList.take k) ++ [hx q, hx r] := by rw [HT.out, hexL_app, HQ.out.1, HQ.out.2]; rfl
            rw [e, bv_app]
            exact hl2, fun b hb => by
              rcases hb2 b hb with h1 | h1
              · exact HF.out b h1
              · have h2 := T1.out.size
                have h3 := HB.out.size
                omega, ⟨by rw [hg2.os]; exact T1.out.os.trans HB.out.os, by rw [hg2.tape]; exact T1.out.tape.trans HB.out.tape, by rw [hg2.output]; exact T1.out.output.trans HB.out.output, Nat.le_trans HB.out.size (Nat.le_trans T1.out.size hg2.size), fun j hj => by
              have hjr : j < wr.heap.size := Nat.lt_of_lt_of_le hj HB.out.size
              refine (hg2.block j (Nat.lt_of_lt_of_le hjr T1.out.size) (fun e => ?_)).trans ((T1.out.block j hjr).trans (HB.out.block j hj))
              have := HF.out j e.symm
              omega⟩⟩
        clear hl2 hg2 hb2 hi iz0 iz1 iz2 hla hli
        refine hK.out _ _ trivial ?_
        clear hK K2
        (try simp only [Act.put, List.setIfInBounds_toArray, List.set_cons_zero, List.set_cons_succ])
        repeat (refine mv_take0 (v := ?_) (by rfl) trivial ?_ ?_; rotate_left 1; (focus (intro w hSw; go_simp; (try with_reducible rfl); done)); (try simp only [Act.put, List.setIfInBounds_toArray, List.set_cons_zero, List.set_cons_succ]))
        refine mv_calm ?_
        go_wp2
        go_roundw
        case rel => exact ⟨k + 1, by omega, by go_num, HN.out⟩
        case measure => simp [intOf]; omega
      · have hke : k = s.size := by omega
        rw [List.take_of_length_le (show s.data.toList.length ≤ k by omega)] at hl
        have hpos : (hexL s.data.toList).length = 2 * s.size := by rw [hexL_len, hsl]
        obtain ⟨g, off, rfl, hn⟩ : ∃ g off, xa = some ⟨g, off, none⟩ ∧ xn = (hexL s.data.toList).length := by
          obtain ⟨a, c, h, hne2⟩ := hl.shape
          cases h
          obtain ⟨g, off, e⟩ := hne2 (fun e => by have h9 : (bv (hexL s.data.toList)).length = 0 := by (rw [e]; rfl)
                                                  rw [bv_len, hpos] at h9; omega)
          exact ⟨g, off, e, bv_len _⟩
        have hcv : (convert 69 9 (.slice (some ⟨g, off, none⟩) xn xc)).run Tryd.prog wr = .ok (.string (st (hexL s.data.toList))) wr := by
          rw [hn] at hl ⊢
          exact run_convert_bytes_back (P := Tryd.prog) wr 69 9 5 ⟨g, off, none⟩ xc (hexL s.data.toList) Tryd.underlying69 Tryd.underlying5 Tryd.underlying9 (fun j hj => hl.cells j _ (by rw [bv, List.getElem?_map, List.getElem?_eq_getElem hj]; rfl))
        have HB := Lib.hid hB
        clear hl hf hB hn hpos
        subst hke
        go_wp2
        go_ret
        exact ⟨rfl, HB.out⟩
end Go.Proofs.YtgicehhenahfpaaDoor
