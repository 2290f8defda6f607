/- The document's Frame: the frame, step by step. -/
import Derived.Test.YtnfnhhphoiebbaaDoorGa
set_option linter.unusedVariables false
set_option linter.unusedSimpArgs false
namespace Go.Proofs.YtnfnhhphoiebbaaDoor
open Go.RowKit
theorem info5 : (Tryd.prog.info? 5).map (fun i => (i.zero, i.size, i.bytes)) = some (some (.int .u8 0), 1, 1) := by kernel_rfl
/-- The frame under way. -/
structure Fw (w wr : World) (v : Value) (L : List Nat) : Prop where
  lane : Lane wr 5 v (bv L)
  far : ∀ b, v.ownBlock = some b → w.heap.size ≤ b
  bel : Below w.heap.size w wr
theorem Fw.grow {w wr w2 : World} {v v2 : Value} {L : List Nat} {x : Nat} (h : Fw w wr v L) (o : Obj) (hl : Lane w2 5 v2 (bv L ++ [.int .u8 x])) (hg : (wr.alloc o).grownBy w2 v.ownBlock) (hb : ∀ k, v2.ownBlock = some k → v.ownBlock = some k ∨ ((wr.alloc o).heap.size ≤ k ∧ k < w2.heap.size)) : Fw w w2 v2 (L ++ [x]) :=
  ⟨by simpa [bv] using hl, fun b hbb => by
    rcases hb b hbb with e | e
    · exact h.far b e
    · have h1 := h.bel.size
      have h2 : wr.heap.size + 1 ≤ b := by simpa using e.1
      omega, (h.bel.alloc h.bel.size o).grown hg (by have := h.bel.size; simp; omega) h.far⟩
theorem fr_take {l : List Win} {k : Nat} {f : Win} (h : l[k]? = some f) : fr (l.take (k + 1)) = fr (l.take k) ++ List.replicate f.2 f.1 := by
  rw [take_snoc h, fr_app]
  simp [fr]
theorem frame_any {w : World} {a : Option Addr} {n cap : Nat} {l : List Win} (hf : IsWins w a n l) (hn : n ≤ 60) (ht : tot l ≤ 1024) : Calls Tryd.prog 8 #[.slice a n cap] w fun e w' => ∃ v, e = .returned v ∧ Fw w w' v (fr l) := by
  obtain ⟨i0, hi, iz0, iz1, iz2⟩ := info_parts info5
  have HF := Lib.hid hf
  have HL := Lib.hid hf.1
  clear hf
  go_enter Tryd.func8, Tryd.ntmps8
  go_wp2
  go_loopw [3, 4] (fun v i wr => ∃ k : Nat, k ≤ n ∧ i = .int .i64 k ∧ Fw w wr v (fr (l.take k))) (fun _ i _ => n - (intOf i).toNat)
  case atStart => exact ⟨0, Nat.zero_le _, rfl, ⟨.inl ⟨rfl, rfl⟩, (fun b h => by cases h), Below.refl _ _⟩⟩
  case round =>
    obtain ⟨k, hk, rfl, hst⟩ := hrel
    have k1 : (0 : Int) ≤ (k : Int) := Int.natCast_nonneg _
    have HS := Lib.hid hst
    clear hst
    by_cases hlt : k < n
    · have k2 : (k : Int) < (n : Int) := by omega
      obtain ⟨⟨f1, f2⟩, hkf⟩ : ∃ f, l[k]? = some f := ⟨_, List.getElem?_eq_getElem (by rw [HL.out]; exact hlt)⟩
      obtain ⟨⟨b1, b2⟩, bk, off, rfl, hc⟩ := win_at HF.out hkf
      dsimp only at b1 b2 hc
      have hft := fr_take hkf
      have htk := tot_take hkf
      have htl := tot_take_le l (k + 1)
      have HC := Lib.hid hc
      have HK := Lib.hid (And.intro hft hlt)
      have hfl := fr_len (l.take k)
      dsimp only at htk
      have hfb : (fr (l.take k)).length + f2 ≤ 1024 := by omega
      clear hc hkf hft htk htl hfl
      obtain ⟨wo, rfl⟩ : ∃ wo : World, wo = wr := ⟨_, rfl⟩
      generalize fr (l.take k) = L at HS HK hfb
      go_wp2
      go_loopw [3, 5] (fun v j wr => ∃ m : Nat, m ≤ f2 ∧ j = .int .i64 m ∧ Fw w wr v (L ++ List.replicate m f1)) (fun _ j _ => f2 - (intOf j).toNat)
      case atStart => exact ⟨0, Nat.zero_le _, rfl, by simpa using HS.out⟩
      case round =>
        obtain ⟨m, hm, rfl, hst⟩ := hrel
        obtain ⟨c0, c1⟩ := HC.out wr hst.bel
        have m1 : (0 : Int) ≤ (m : Int) := Int.natCast_nonneg _
        have HT := Lib.hid hst
        have q2 : (f2 : Int) < 65536 := by omega
        have q1 : (0 : Int) ≤ (f2 : Int) := Int.natCast_nonneg _
        by_cases hmt : m < f2
        · have m2 : (m : Int) < (f2 : Int) := by omega
          have hlen : (bv (L ++ List.replicate m f1)).length = L.length + m := by rw [bv_len]; simp
          have HM := Lib.hid hmt
          clear hst hmt
          go_wp2_with (at_builtin; go_loud (refine wpList_append_lane rfl _ _ 30 rfl 5 i0 (.int .u8 0) 1 Tryd.underlying30 hi iz0 iz1 iz2 (by decide) _ (.slice (some ⟨wr.heap.size, 0, none⟩) 1 1) (bv (L ++ List.replicate m f1)) [.int .u8 f1] rfl rfl (HT.out.lane.more _) (Lane.lit wr 5 #[.int .u8 f1] (by simp [maxLen])) ?e1 ?e2 ?e3 ?_))
          case e1 => intro u hu; simp at hu; subst hu; rfl
          case e2 => rw [hlen]; simp only [List.length_singleton, maxLen]; omega
          case e3 => rw [hlen]; simp only [List.length_singleton]; omega
          intro v2 w3 hl3 hg3 hb3
          have hfw := HT.out.grow (x := f1) _ hl3 hg3 (fun k hk => by rw [World.size_alloc]; exact hb3 k hk)
          rw [List.append_assoc, ← List.replicate_succ'] at hfw
          have HW := Lib.hid hfw
          clear hl3 hg3 hb3 hfw hlen c0 c1
          go_wp2
          go_roundw
          case rel => exact ⟨m + 1, by have := HM.out; omega, by go_num, HW.out⟩
          case measure => simp [intOf]; have := HM.out; omega
        · obtain rfl : m = f2 := by omega
          clear hst hmt
          go_wp2
          go_roundw
          case rel => exact ⟨k + 1, by have := HK.out.2; omega, by go_num, by rw [HK.out.1]; exact HT.out⟩
          case measure => simp [intOf]; have := HK.out.2; omega
    · have hkl : l.take k = l := List.take_of_length_le (by rw [HL.out]; omega)
      rw [hkl] at HS
      clear hkl
      go_wp2
      go_ret
      exact ⟨_, rfl, HS.out⟩
end Go.Proofs.YtnfnhhphoiebbaaDoor
