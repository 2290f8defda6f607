/- The document's Load: its loop. -/
import Derived.Test.YtnignbpgcopehaaRl
set_option linter.unusedVariables false
set_option linter.unusedSimpArgs false
namespace Go.Proofs.Ytnignbpgcopehaa
open Go.RowKit
theorem rest_none {s : ByteArray} {p : Nat} (h : s.size ≤ p) : rest s p = ⟨#[]⟩ := by
  apply ByteArray.ext
  apply Array.eq_empty_of_size_eq_zero
  have := rest_size (s := s) p
  show (rest s p).size = 0
  omega
theorem extract_len {s : ByteArray} {p n : Nat} : (s.extract p (p + n)).size ≤ n := by rw [ByteArray.size_extract]; omega
def RdPost (w : World) (d m : Nat) (s : ByteArray) (e : Ending) (w' : World) : Prop := ∃ P, e = .returned (.tuple #[P, .int .i64 (loadE s d m)]) ∧ Below w.heap.size w w' ∧ (loadE s d m = 0 → ∃ C p Ms v, P = .pointer (some ⟨C, 0, none⟩) ∧ ldAll s d m = some (p, false, Ms) ∧ s.size ≤ p ∧ Rd w w' C d m Ms v)
theorem rdPost_no {w : World} {d m : Nat} {s : ByteArray} {w' : World} {z : Int} (hv : loadE s d m = z) (hz : z ≠ 0) (hb : Below w.heap.size w w') : RdPost w d m s (.returned (.tuple #[.pointer none, .int .i64 z])) w' :=
  ⟨_, by rw [hv], hb, fun h => absurd (hv.symm.trans h) hz⟩
set_option maxHeartbeats 4000000 in
set_option maxRecDepth 100000 in
theorem rload_any (d m : Nat) (g1 : 1 ≤ d) (g2 : d ≤ 16) (g3 : 1 ≤ m) (g4 : m ≤ 64) (s : ByteArray) (hs : s.size ≤ 2000) (w : World) : Calls Try.prog 19 #[.int .u8 d, .int .u8 m, .string s] w (RdPost w d m s) := by
  obtain ⟨i0, hi, iz0, iz1, iz2⟩ := info_parts info9
  have HN := Lib.hid (rnew_ok d m g1 g2 g3 g4 w)
  by_cases h0 : s.size = 0
  · obtain rfl : s = ⟨#[]⟩ := by apply ByteArray.ext; exact Array.eq_empty_of_size_eq_zero h0
    have hv := all_end (s := ⟨#[]⟩) d m rfl
    clear h0
    go_enter Try.func19, Try.ntmps19
    go_wp2_with (go_at_call 8; refine HN.out.mono ?_; rintro e w1 ⟨rfl, hq, hb, hlt⟩)
    go_ret2
    exact rdPost_no hv (by decide) hb
  · have hp0 : 0 < s.size := by omega
    have hb0 := byte_lt (s[0]'hp0)
    have r0 := ix_at s hp0
    have r1 : ∀ wx, (Instr.slice 9 (.string s) (some (.int .i64 1)) none none).run Try.prog wx = .ok (.string (rest s 1)) wx := sl_from s 1 hp0
    have e0 : ((s.size : Int) == 0) = false := beq_eq_false_iff_ne.2 (by omega)
    have hlong := all_long d m hp0
    have hgo := all_go d m hp0
    generalize (s[0]'hp0).toNat = c at hb0 r0 hlong hgo
    by_cases hd : d < c
    · have hv := hlong hd
      have HS := Lib.hid (And.intro hs hp0)
      clear hlong hgo h0 hs
      go_enter Try.func19, Try.ntmps19
      go_wp2_with (go_at_call 8; refine HN.out.mono ?_; rintro e w1 ⟨rfl, hq, hb, hlt⟩; have c1 := hq.box.read 1)
      go_ret2
      exact rdPost_no hv (by decide) hb
    · have hgo := hgo (by omega)
      have HG := Lib.hid hgo
      have HS := Lib.hid (And.intro hs hp0)
      clear hlong hgo h0 hs
      go_enter Try.func19, Try.ntmps19
      go_wp2_with (go_at_call 8; refine HN.out.mono ?_; rintro e w1 ⟨rfl, hq, hb, hlt⟩; have c1 := hq.box.read 1; have HQ := Lib.hid (And.intro hq (And.intro hb hlt)); clear hq hb hlt)
      generalize hB : w.heap.size = B at HQ c1 ⊢
      have HB := Lib.hid hB
      clear hB HN r0 r1 e0
      go_loopw [2, 11] (fun x i wr => ∃ (k p : Nat) (Ms : List Sm) (v : Value), k ≤ c ∧ i = .int .i64 k ∧ x = .string (rest s p) ∧ p ≤ s.size ∧ Ms.length = k ∧ ldF s m (c - k) p false Ms = ldAll s d m ∧ Rd w wr B d m Ms v) (fun _ i _ => c - (intOf i).toNat)
      case atStart => exact ⟨0, 1, [], .slice none 0 0, Nat.zero_le _, rfl, rfl, HS.out.2, rfl, HG.out.symm, ⟨HQ.out.1.box, World.ownsRow_nil _ _ _ _, by rw [HB.out]; exact HQ.out.2.1, by rw [HB.out]; exact Nat.le_refl _⟩⟩
      case round =>
        obtain ⟨k, p, Ms, v, hk, rfl, rfl, hp, hMk, hld, hst⟩ := hrel
        have k1 : (0 : Int) ≤ (k : Int) := Int.natCast_nonneg _
        obtain ⟨a, cap, rfl, hcap, ha0, ha1⟩ := own_shape1 hst.own
        rw [hMk] at hst
        have d0 : wr.cell? ⟨B, 0, none⟩ = some (.slice a k cap) := hst.box.read 0
        have d1 : wr.cell? ⟨B, 1, none⟩ = some (.int .i64 d) := hst.box.read 1
        have d2 : wr.cell? ⟨B, 2, none⟩ = some (.int .i64 m) := hst.box.read 2
        have HT := Lib.hid hst
        have HA := Lib.hid (And.intro hcap (And.intro ha0 ha1))
        clear hst HQ HG c1 hcap ha0 ha1
        by_cases hlt : k < c
        · have k2 : (k : Int) < (c : Int) := by omega
          have hck : c - k = (c - k - 1) + 1 := by omega
          rw [hck] at hld
          have HK := Lib.hid hck
          clear hck
          by_cases hpe : s.size ≤ p
          · obtain ⟨p', Ms', hE⟩ := ld_end (s := s) m (c - k - 1) p Ms hpe
            have hv := loadE_torn (hld.symm.trans hE)
            have hr := rest_none hpe
            clear hld hE hpe hp
            rw [hr]
            clear hr
            go_wp2
            go_ret2
            exact rdPost_no hv (by decide) HT.out.bel
          · have hpl : p < s.size := by omega
            have hy := rest_size (s := s) p
            have hy0 : 0 < (rest s p).size := by omega
            have hbt := rest_at hpl hy0
            have hlong := ld_long (s := s) m (c - k - 1) p Ms hpl
            have hshort := ld_short (s := s) m (c - k - 1) p Ms hpl
            have hstep := ld_step (s := s) m (c - k - 1) p Ms hpl
            have r0 := ix_at (rest s p) hy0
            rw [hbt] at r0
            have hbl := byte_lt (s[p]'hpl)
            generalize (s[p]'hpl).toNat = b at hlong hshort hstep r0 hbl
            clear hbt
            have r1 : ∀ wx, (Instr.slice 9 (.string (rest s p)) (some (.int .i64 1)) none none).run Try.prog wx = .ok (.string (rest s (p + 1))) wx := fun wx => by
              have := sl_from (rest s p) 1 hy0 wx
              rw [rest_rest] at this
              exact this
            have e0 : (((rest s p).size : Int) == 0) = false := beq_eq_false_iff_ne.2 (by omega)
            have hy1 := rest_size (s := s) (p + 1)
            by_cases hm : m < b
            · have hv := loadE_none (hld.symm.trans (hlong hm))
              have HY := Lib.hid (And.intro hy (And.intro hy0 hy1))
              clear hlong hshort hstep hld hy hy0 hy1 hpe hpl hp
              go_wp2
              go_ret2
              exact rdPost_no hv (by decide) HT.out.bel
            · by_cases hsh : s.size < p + 1 + b
              · obtain ⟨p', Ms', hE⟩ := hshort (by omega) hsh
                have hv := loadE_torn (hld.symm.trans hE)
                have hz : (rest s (p + 1)).size < b := by omega
                have HY := Lib.hid (And.intro hy (And.intro hy0 hy1))
                clear hlong hshort hstep hld hE hy hy0 hy1 hpe hpl hp hsh
                go_wp2
                go_ret2
                exact rdPost_no hv (by decide) HT.out.bel
              · have hst2 := hld.symm.trans (hstep (by omega) (by omega))
                have hz : b ≤ (rest s (p + 1)).size := by omega
                have r2 : ∀ wx, (Instr.slice 9 (.string (rest s (p + 1))) none (some (.int .i64 b)) none).run Try.prog wx = .ok (.string (s.extract (p + 1) (p + 1 + b))) wx := fun wx => by
                  rw [← rest_head (s := s) (p + 1) b (by omega)]
                  exact sl_to (rest s (p + 1)) b hz wx
                have r3 : ∀ wx, (Instr.slice 9 (.string (rest s (p + 1))) (some (.int .i64 b)) none none).run Try.prog wx = .ok (.string (rest s (p + 1 + b))) wx := fun wx => by
                  have := sl_from (rest s (p + 1)) b hz wx
                  rw [rest_rest] at this
                  exact this
                have HX : Hid ((s.extract (p + 1) (p + 1 + b)).size ≤ 64) := Lib.hid (by have := extract_len (s := s) (p := p + 1) (n := b); omega)
                have HZ := Lib.hid (And.intro hst2 (show p + 1 + b ≤ s.size by omega))
                have HY := Lib.hid (And.intro hy (And.intro hy0 hy1))
                generalize hzz : s.extract (p + 1) (p + 1 + b) = z at HX HZ r2
                clear hlong hshort hstep hld hst2 hy hy0 hy1 hpe hpl hp hsh hzz
                have hcl : k + 1 ≤ 16 := by omega
                have f0 := HT.out.box.warm 0
                go_wp2
                refine wp_region_moves_then 12 (fun w' => w'.cell? ⟨B, 0, none⟩ = some (.slice a k cap))
                  (.e 0 :: .e 0 :: .e 0 :: .e 0 :: .e 0 :: .e 0 :: .e 0 :: .e 0 :: .l 0 :: .l 0 :: .e 0 :: .e 0 :: []) (by kernel_rfl) (by kernel_rfl) (by kernel_rfl) (by kernel_rfl) (by kernel_rfl) (by kernel_rfl) ?_
                simp only [List.take_succ_cons, List.take_zero, List.drop_succ_cons, List.drop_zero]
                have hHeld : (wr.drew.cell? ⟨B, 0, none⟩ = some (.slice a k cap)) := HT.out.box.drawn1.read 0
                repeat (refine mv_take0 (v := ?_) (by rfl) hHeld ?_ ?_; rotate_left 1; (focus (intro w hSw; (try dsimp only at hSw); have hs0 := hSw; go_simp; (try with_reducible rfl); done)); (try simp only [Act.put, List.setIfInBounds_toArray, List.set_cons_zero, List.set_cons_succ]))
                refine mv_loud0 (by rfl) (fun K2 hK => ?_)
                go_simp
                refine hK.out _ _ ((HT.out.box.drawn1.more _).read 0) ?_
                clear hK K2
                (try simp only [Act.put, List.setIfInBounds_toArray, List.set_cons_zero, List.set_cons_succ])
                refine mv_loud0 (by rfl) (fun K2 hK => ?_)
                have hm := hK
                have hBs := HT.out.box.inHeap
                have hown : (wr.drew.alloc (.cells #[.string z] 9)).ownsRow (B + 1) 9 1 (.slice a k cap) k (strs (Ms.map (·.1))) := by
                  have h := HT.out.own
                  rw [hMk] at h
                  exact h.drew.alloc _
                refine wp_append_own _ _ _ 44 rfl (B + 1) 9 i0 (.string ⟨#[]⟩) 1 16 Try.underlying44 hi iz0 iz1 iz2 rfl (by decide) _ _ _ rfl hown ⟨wr.heap.size, 0, none⟩ 1 1 [.string z] rfl rfl ?c1 ?c2 ?c3 ?c4 ?c5 ?_
                case c1 =>
                  intro j u hj
                  match j, hj with
                  | 0, hj =>
                    simp at hj
                    subst hj
                    have hbm := Box.read (Box.made wr.drew 9 #[.string z]) 0
                    simp [Addr.add]
                case c2 => intro u hu; simp at hu; subst hu; rfl
                case c3 => unfold maxLen; omega
                case c4 => omega
                case c5 => simp; omega
                intro v2 w2 hown2 hg2 _
                have hbx : Box w2 B 56 #[.slice a k cap, .int .i64 d, .int .i64 m] := (hg2.block B (HT.out.box.drawn1.more _).inHeap (fun e => by first | (have := own_ge hown B e; omega) | (have := own_ge hown B e.symm; omega))).trans (HT.out.box.drawn1.more _)
                have hHeld := hbx.read 0
                refine hK.out _ _ hHeld ?_
                clear hm hK K2
                (try simp only [Act.put, List.setIfInBounds_toArray, List.set_cons_zero, List.set_cons_succ])
                repeat (refine mv_take0 (v := ?_) (by rfl) hHeld ?_ ?_; rotate_left 1; (focus (intro w hSw; (try dsimp only at hSw); have hs0 := hSw; go_simp; (try with_reducible rfl); done)); (try simp only [Act.put, List.setIfInBounds_toArray, List.set_cons_zero, List.set_cons_succ]))
                refine mv_then ?_
                have hBw := HB.out
                have hsz := HT.out.bel.size
                have bel2 : Below w.heap.size w w2 := (HT.out.bel.drew.alloc (by simp; omega) _).grown hg2 (by simp; omega) (fun k hk => by have := own_ge hown k hk; omega)
                have hmk : (mkS z).1 = z := mkS_val HX.out
                have HD : Hid (Rd w (w2.setCell ⟨B, 0, none⟩ v2) B d m (Ms ++ [mkS z]) v2) := Lib.hid ⟨box_eq (hbx.put 0 _) rfl, by
                  have h := ownsRow_setCell_below hown2 (a := ⟨B, 0, none⟩) (Nat.lt_succ_self B) v2
                  rw [List.length_append, hMk, List.map_append, List.map_cons, List.map_nil, hmk, ← strs_snoc]
                  exact h, bel2.setCell (p := ⟨B, 0, none⟩) (by show w.heap.size ≤ B; omega) _, by omega⟩
                have e0 := hbx.read 0
                have g0 := hbx.warm 0
                obtain ⟨a2, cap2, rfl, _⟩ := own_shape hown2
                have HM := Lib.hid hMk
                clear hown2 hg2 hown hBs hHeld hbx bel2 hmk d0 d1 d2 hMk
                go_wp2
                refine NoPanic.normal ?_
                clear e0 g0
                generalize (w2.setCell ⟨B, 0, none⟩ (.slice a2 (k + 1) cap2)) = w3 at HD ⊢
                go_wp2
                go_roundw
                case rel => exact ⟨k + 1, p + 1 + b, Ms ++ [mkS z], _, by omega, by go_num, rfl, HZ.out.2, by rw [List.length_append, HM.out]; rfl, by rw [show c - (k + 1) = c - k - 1 by omega]; exact HZ.out.1.symm, HD.out⟩
                case measure => simp [intOf]; omega
        · have hkc : k = c := by omega
          subst hkc
          rw [Nat.sub_self] at hld
          have HL : Hid (ldAll s d m = some (p, false, Ms)) := Lib.hid hld.symm
          have hrs := rest_size (s := s) p
          clear hld
          by_cases hlong : p < s.size
          · have hv : loadE s d m = 3 := by rw [loadE_some HL.out, if_neg (by simp), if_pos hlong]
            have hy0 : 0 < (rest s p).size := by omega
            have HX := Lib.hid (And.intro hrs hp)
            clear hrs hp hlong
            go_wp2
            go_ret2
            exact rdPost_no hv (by decide) HT.out.bel
          · have hv : loadE s d m = 0 := by rw [loadE_some HL.out, if_neg (by simp), if_neg hlong]
            have hr := rest_none (s := s) (p := p) (by omega)
            rw [hr]
            have HX := Lib.hid (And.intro hrs (And.intro hp hlong))
            clear hrs hp hlong hr
            go_wp2
            go_ret2
            exact ⟨.pointer (some ⟨B, 0, none⟩), ret2_eq hv.symm, HT.out.bel, fun _ => ⟨B, p, Ms, .slice a k cap, rfl, HL.out, by have := HX.out.2.2; omega, HT.out⟩⟩
end Go.Proofs.Ytnignbpgcopehaa
