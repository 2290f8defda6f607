/- Parse of the program. -/
import Derived.Test.YtilfhkagfjdfkaaEB
import Derived.WalkMore
set_option linter.unusedVariables false
set_option linter.unusedSimpArgs false
namespace Go.Proofs.Ytilfhkagfjdfkaa
open Go.RowKit
attribute [local go_sem] Oper.semAt_some
/-- The greatest moments. -/
def lastA (F : Nat → Nat) : Array Value := ((List.range 256).map fun i => Value.int .u32 (F i)).toArray
theorem last_at (F : Nat → Nat) (g : Nat) (h : g < 256) : (lastA F)[g]? = some (.int .u32 (F g)) := by
  simp [lastA, h]
theorem last_put (F : Nat → Nat) (g x : Nat) (h : g < 256) : (lastA F).setIfInBounds g (.int .u32 (x : Int)) = lastA (upd F g x) := by
  unfold lastA
  rw [List.setIfInBounds_toArray]
  congr 1
  apply List.ext_getElem?
  intro i
  rw [List.getElem?_set, List.getElem?_map, List.getElem?_map]
  by_cases e : g = i
  · subst e
    simp [h, upd_at]
  · rw [if_neg e]
    by_cases hi : i < 256
    · simp [hi, upd_ne _ _ (Ne.symm e)]
    · simp [hi]
theorem last_zero : Try.zeroCells58 = lastA fun _ => 0 := by kernel_rfl
theorem infoE : (Try.prog.info? 46).map (fun i => (i.zero, i.size, i.bytes)) = some (some (.agg #[.int .u32 0, .int .u8 0, .int .u8 0, .int .u32 0]), 4, 12) := by kernel_rfl
theorem infoD : (Try.prog.info? 33).map (fun i => (i.zero, i.size, i.bytes)) = some (some (.agg #[.int .i64 0, .int .u8 0]), 2, 16) := by kernel_rfl
/-- How it stands in memory. -/
structure Ps (w0 w : World) (X S0 L : Nat) (s : ByteArray) (vk vd : Value) (t : PSt) : Prop where
  src : Src w X S0 s (10 * t.n) false
  last : Box w L 58 (lastA t.F)
  ke : w.ownsRow w0.heap.size 46 4 vk t.K.length (evs t.K)
  dr : w.ownsRow w0.heap.size 33 2 vd t.D.length (drs t.D)
  lx : w0.heap.size ≤ X
  ll : w0.heap.size ≤ L
  bel : Below w0.heap.size w0 w
theorem grow_alloc {w w' : World} {o : Obj} {row : Option Nat} (h : (w.alloc o).grownBy w' row) : w.grownBy w' row := ⟨h.os, h.tape, h.output, Nat.le_trans (by simp) h.size, fun k hk hn => (h.block k (by simp; omega) hn).trans (Below.heap_alloc w o k hk)⟩
theorem wrap_u8_i64 (n : Nat) (h : n < 256) : IntKind.i64.wrap (n : Int) = (n : Int) := by
  simp only [IntKind.wrap, IntKind.signed, IntKind.bits]
  simp
  omega
section
variable {w0 w w2 : World} {X S0 L : Nat} {s : ByteArray} {vk vd v2 : Value} {t u : PSt}
theorem Ps.below (h : Ps w0 w X S0 L s vk vd t) (hb : Below w.heap.size w w2) : Ps w0 w2 X S0 L s vk vd t :=
  ⟨⟨h.src.box.over hb h.src.box.inHeap, h.src.txt.over hb h.src.txt.inHeap, h.src.ne, h.src.le⟩, h.last.over hb h.last.inHeap, own_below h.ke hb, own_below h.dr hb, h.lx, h.ll, h.bel.trans (hb.mono h.bel.size)⟩
/-- .. behind a record that was taken. -/
structure Pt (w0 w : World) (X S0 L : Nat) (s : ByteArray) (vk vd : Value) (t : PSt) : Prop where
  src : Src w X S0 s (10 * t.n + 10) false
  last : Box w L 58 (lastA t.F)
  ke : w.ownsRow w0.heap.size 46 4 vk t.K.length (evs t.K)
  dr : w.ownsRow w0.heap.size 33 2 vd t.D.length (drs t.D)
  lx : w0.heap.size ≤ X
  ll : w0.heap.size ≤ L
  bel : Below w0.heap.size w0 w
theorem Ps.took (h : Ps w0 w X S0 L s vk vd t) (hs : Src w2 X S0 s (10 * t.n + 10) false) (ho : Only X w w2) : Pt w0 w2 X S0 L s vk vd t :=
  ⟨hs, h.last.only ho (box_ne h.last h.src.box (by decide)), own_only h.ke ho (own_ne h.ke h.src.box (by decide)), own_only h.dr ho (own_ne h.dr h.src.box (by decide)), h.lx, h.ll, h.bel.trans (ho.below h.lx h.bel.size)⟩
theorem Pt.below (h : Pt w0 w X S0 L s vk vd t) (hb : Below w.heap.size w w2) : Pt w0 w2 X S0 L s vk vd t :=
  ⟨⟨h.src.box.over hb h.src.box.inHeap, h.src.txt.over hb h.src.txt.inHeap, h.src.ne, h.src.le⟩, h.last.over hb h.last.inHeap, own_below h.ke hb, own_below h.dr hb, h.lx, h.ll, h.bel.trans (hb.mono h.bel.size)⟩
theorem Pt.drawn (h : Pt w0 w X S0 L s vk vd t) (j : Nat) : Pt w0 (w.drewN j) X S0 L s vk vd t := h.below (below_drawn (Below.refl _ _) j)
theorem Pt.skipped (h : Pt w0 w X S0 L s vk vd t) (y : Nat) (hg : w.grownBy w2 vd.ownBlock) (ho : w2.ownsRow w0.heap.size 33 2 v2 (t.D.length + 1) (drs t.D ++ [.int .i64 t.n, .int .u8 y])) : Ps w0 w2 X S0 L s vk v2 (t.skip y) :=
  ⟨⟨(hg.block X h.src.box.inHeap (fun q => own_ne h.dr h.src.box (by decide) q.symm)).trans h.src.box, (hg.block S0 h.src.txt.inHeap (fun q => own_ne h.dr h.src.txt (by decide) q.symm)).trans h.src.txt, h.src.ne, h.src.le⟩,
   (hg.block L h.last.inHeap (fun q => own_ne h.dr h.last (by decide) q.symm)).trans h.last, h.ke.kept hg (own_own h.ke h.dr (by decide)), by
     show w2.ownsRow w0.heap.size 33 2 v2 (t.D ++ [(⟨t.n, y⟩ : Dr)]).length (drs (t.D ++ [(⟨t.n, y⟩ : Dr)]))
     rw [drs_app, List.length_append]
     exact ho, h.lx, h.ll, h.bel.grown hg h.bel.size (fun k hk => (h.dr.lt k hk).1)⟩
theorem Ps.last_drop (h : Ps w0 w X S0 L s vk vd t) (hg : w.grownBy w2 vd.ownBlock) (ho : w2.ownsRow w0.heap.size 33 2 v2 (t.D.length + 1) (drs t.D ++ [.int .i64 t.n, .int .u8 1])) : w2.ownsRow w0.heap.size 46 4 vk t.K.length (evs t.K) ∧ w2.ownsRow w0.heap.size 33 2 v2 (t.D ++ [(⟨t.n, 1⟩ : Dr)]).length (drs (t.D ++ [(⟨t.n, 1⟩ : Dr)])) ∧ Below w0.heap.size w0 w2 :=
  ⟨h.ke.kept hg (own_own h.ke h.dr (by decide)), by rw [drs_app, List.length_append]; exact ho, h.bel.grown hg h.bel.size (fun k hk => (h.dr.lt k hk).1)⟩
theorem Pt.mark (h : Pt w0 w X S0 L s vk vd t) (g x : Nat) (hg : g < 256) : Pt w0 (w.setCell ⟨L, g, none⟩ (.int .u32 (x : Int))) X S0 L s vk vd { t with F := upd t.F g x } :=
  ⟨⟨h.src.box.putFar (p := ⟨L, g, none⟩) (box_ne h.src.box h.last (by decide)) _, h.src.txt.putFar (p := ⟨L, g, none⟩) (box_ne h.src.txt h.last (by decide)) _, h.src.ne, h.src.le⟩, by rw [← last_put t.F g x hg]; exact h.last.put g _,
   own_only h.ke ((Only.refl L w).put (p := ⟨L, g, none⟩) (.inl rfl) _) (own_ne h.ke h.last (by decide)), own_only h.dr ((Only.refl L w).put (p := ⟨L, g, none⟩) (.inl rfl) _) (own_ne h.dr h.last (by decide)), h.lx, h.ll, h.bel.setCell (p := ⟨L, g, none⟩) h.ll _⟩
theorem Pt.kept (h : Pt w0 w X S0 L s vk vd t) (e : Ev) (hg : w.grownBy w2 vk.ownBlock) (ho : w2.ownsRow w0.heap.size 46 4 v2 (t.K.length + 1) (evs t.K ++ evL e)) (hF : u.F = t.F) (hn : u.n = t.n + 1) (hK : u.K = t.K ++ [e]) (hD : u.D = t.D) : Ps w0 w2 X S0 L s v2 vd u :=
  ⟨⟨by
     rw [hn, Nat.mul_add]
     exact (hg.block X h.src.box.inHeap (fun q => own_ne h.ke h.src.box (by decide) q.symm)).trans h.src.box, (hg.block S0 h.src.txt.inHeap (fun q => own_ne h.ke h.src.txt (by decide) q.symm)).trans h.src.txt, h.src.ne, by rw [hn, Nat.mul_add]; exact h.src.le⟩,
   by rw [hF]; exact (hg.block L h.last.inHeap (fun q => own_ne h.ke h.last (by decide) q.symm)).trans h.last, by
     rw [hK, evs_app, List.length_append]
     have e1 : evs [e] = evL e := by simp [evs]
     rw [e1]
     exact ho, by rw [hD]; exact h.dr.kept hg (own_own h.dr h.ke (by decide)), h.lx, h.ll, h.bel.grown hg h.bel.size (fun k hk => (h.ke.lt k hk).1)⟩
end
set_option maxHeartbeats 16000000 in
set_option maxRecDepth 100000 in
theorem parse_any (s : ByteArray) (hs : s.size ≤ 100000) (gs : Int) (w : World) : Calls Try.prog 11 #[.string s, .int .i64 gs] w fun e w' => ∃ vk vd, e = .returned (.tuple #[vk, vd]) ∧ w'.ownsRow w.heap.size 46 4 vk (parK gs s.data.toList).length (evs (parK gs s.data.toList)) ∧ w'.ownsRow w.heap.size 33 2 vd (parD gs s.data.toList).length (drs (parD gs s.data.toList)) ∧ Below w.heap.size w w' := by
  obtain ⟨i0, hi, iz0, iz1, iz2⟩ := info_parts infoE
  obtain ⟨j0, hj, jz0, jz1, jz2⟩ := info_parts infoD
  have hsz : s.data.toList.length = s.size := Array.length_toList
  have HL0 : Hid (Box (w.alloc (.cells Try.zeroCells58 58)) w.heap.size 58 (lastA fun _ => 0)) := Lib.hid (by rw [← last_zero]; exact Box.made _ _ _)
  have T0 : Hid (Below w.heap.size w (w.alloc (.cells Try.zeroCells58 58))) := Lib.hid ((Below.refl _ _).alloc (Nat.le_refl _) _)
  have hsize1 : (w.alloc (.cells Try.zeroCells58 58)).heap.size = w.heap.size + 1 := by simp
  have HZ := Lib.hid hsize1
  have HSZ := Lib.hid hsz
  clear hsize1 hsz
  go_enter Try.func11, Try.ntmps11
  go_wp2_with fail
  go_step3
  go_wp2_with fail
  refine (of_any s _).mono ?_
  rintro e w1 ⟨rfl, hsrc, hb1, _⟩
  have H0 : Hid (Ps w w1 ((w.alloc (.cells Try.zeroCells58 58)).heap.size + 1) (w.alloc (.cells Try.zeroCells58 58)).heap.size w.heap.size s (.slice none 0 0) (.slice none 0 0) .zero) := Lib.hid
    ⟨hsrc, HL0.out.over hb1 HL0.out.inHeap, World.ownsRow_nil _ _ _ _, World.ownsRow_nil _ _ _ _, by rw [HZ.out]; omega, Nat.le_refl _, T0.out.trans (hb1.mono T0.out.size)⟩
  clear hsrc hb1
  generalize (w.alloc (.cells Try.zeroCells58 58)).heap.size + 1 = X at H0 ⊢
  generalize (w.alloc (.cells Try.zeroCells58 58)).heap.size = S0 at H0 ⊢
  obtain ⟨L, hL⟩ : ∃ L, L = w.heap.size := ⟨_, rfl⟩
  rw [show Ps w w1 X S0 w.heap.size s (.slice none 0 0) (.slice none 0 0) .zero = Ps w w1 X S0 L s (.slice none 0 0) (.slice none 0 0) .zero from by rw [hL]] at H0
  rw [← hL]
  clear hL HL0 T0 HZ
  go_wp2_with fail
  go_step3
  go_wp2_with fail
  go_loopw [6, 7, 10] (fun a b i wr => ∃ (vk vd : Value) (t : PSt), a = vk ∧ b = vd ∧ i = .int .i64 t.n ∧ t.n ≤ s.size / 10 ∧ t = pst gs ((recs s.data.toList).take t.n) ∧ Ps w wr X S0 L s vk vd t) (fun _ _ i _ => s.size / 10 - (intOf i).toNat)
  case atStart => exact ⟨_, _, .zero, rfl, rfl, rfl, Nat.zero_le _, rfl, H0.out⟩
  case round =>
    obtain ⟨vk, vd, t, rfl, rfl, rfl, hn, ht, hP⟩ := hrel
    clear H0
    have HP := Lib.hid hP
    have HT := Lib.hid ht
    have hcount : t.K.length + t.D.length = t.n := by
      have h := pst_len gs ((recs s.data.toList).take t.n) .zero
      rw [show ((recs s.data.toList).take t.n).foldl (pstep gs) .zero = t from ht.symm] at h
      have h2 : PSt.zero.K.length + PSt.zero.D.length = 0 := rfl
      have h3 : ((recs s.data.toList).take t.n).length = t.n := by
        rw [List.length_take, recs_len, HSZ.out]; omega
      omega
    have hF : ∀ g, t.F g < 4294967296 := by
      rw [ht]
      exact pst_F gs _ _ (fun e he => recs_wf _ e (List.mem_of_mem_take he)) (fun _ => show 0 < 4294967296 by decide)
    have hHF := Lib.hid hF
    clear hP ht hF
    have n1 : (0 : Int) ≤ (t.n : Int) := Int.natCast_nonneg _
    by_cases hr : t.n < s.size / 10
    · have g1 : (0 : Int) < (s.size : Int) - (10 * t.n : Nat) := by omega
      have g2 : ¬ (s.size : Int) - (10 * t.n : Nat) < 10 := by omega
      have hstep : pst gs ((recs s.data.toList).take (t.n + 1)) = pstep gs t (recEv (s.data.toList.drop (10 * t.n))) := by
        rw [List.take_add_one, recs_at _ _ (by rw [HSZ.out]; exact hr)]
        show pst gs (_ ++ [_]) = _
        rw [pst_snoc, ← HT.out]
      have HST := Lib.hid hstep
      clear hstep
      have HR := Lib.hid (record_any HP.out.src (by omega) (by omega))
      have hwf := recEv_wf (s.data.toList.drop (10 * t.n))
      generalize recEv (s.data.toList.drop (10 * t.n)) = e at HST HR hwf
      obtain ⟨et, eg, ek, ev⟩ := e
      have hwf2 := hwf
      obtain ⟨w1', w2', w3', w4'⟩ := hwf2
      simp only at w1' w2' w3' w4'
      go_wp2_with (first
        | (go_at_call 26; refine (left_any HP.out.src).mono ?_; rintro e w' ⟨rfl, rfl⟩)
        | (go_at_call 27; refine HR.out.mono ?_; rintro e w3 ⟨rfl, h1, h2⟩; have H3 := Lib.hid (HP.out.took h1 h2); clear h1 h2))
      have HBe : Hid (Pt w (w3.alloc (.cells #[.int .u32 et, .int .u8 eg, .int .u8 ek, .int .u32 ev] 46)) X S0 L s u6 u7 t ∧ Box (w3.alloc (.cells #[.int .u32 et, .int .u8 eg, .int .u8 ek, .int .u32 ev] 46)) w3.heap.size 46 #[.int .u32 et, .int .u8 eg, .int .u8 ek, .int .u32 ev]) := Lib.hid ⟨H3.out.below ((Below.refl _ _).alloc (Nat.le_refl _) _), Box.made _ _ _⟩
      generalize (w3.alloc (.cells #[.int .u32 et, .int .u8 eg, .int .u8 ek, .int .u32 ev] 46)) = w4 at HBe ⊢
      generalize w3.heap.size = Eb at HBe ⊢
      clear H3
      refine (mayB_any ⟨et, eg, ek, ev⟩ hwf w4).mono ?_
      rintro e w5 ⟨rfl, hbl⟩
      have HB := Lib.hid (And.intro (HBe.out.1.below hbl) (HBe.out.2.over hbl HBe.out.2.inHeap))
      clear hbl HBe HR
      have c0 : ∀ j, (w5.drewN j).cell? ⟨Eb, 0, none⟩ = some (.int .u32 et) := fun j => (HB.out.2.drawn j).read 0
      have c1 : ∀ j, (w5.drewN j).cell? ⟨Eb, 1, none⟩ = some (.int .u8 eg) := fun j => (HB.out.2.drawn j).read 1
      have d1 : w5.cell? ⟨Eb, 1, none⟩ = some (.int .u8 eg) := HB.out.2.read 1
      have cL : ∀ j, (w5.drewN j).cell? ⟨L, eg, none⟩ = some (.int .u32 (t.F eg)) := fun j => ((HB.out.1.last.drawn j).read eg).trans (last_at _ _ w2')
      have hwi := wrap_u8_i64 eg w2'
      have eg0 : (0 : Int) ≤ (eg : Int) := Int.natCast_nonneg _
      have eg1 : (eg : Int) < 256 := by omega
      cases hmb : mayB ⟨et, eg, ek, ev⟩
      · have hwhy : whyN ⟨et, eg, ek, ev⟩ gs (t.F eg) = 1 := by unfold whyN; rw [if_pos hmb]
        clear c0 c1 d1 cL
        have hsk : pst gs ((recs s.data.toList).take (t.n + 1)) = t.skip 1 := by rw [HST.out, pstep, hwhy]; rfl
        have HSK := Lib.hid hsk
        clear hsk hwhy
        go_wp2_with (at_builtin; go_loud (refine wpList_append_own _ rfl _ _ 24 rfl w.heap.size 33 j0 (.agg #[.int .i64 0, .int .u8 0]) 2 16 Try.underlying24 hj jz0 jz1 jz2 rfl (by decide) u7 t.D.length (drs t.D) rfl (HB.out.1.dr.alloc _) ⟨w5.heap.size, 0, none⟩ 1 1 [.int .i64 t.n, .int .u8 1] rfl rfl ?c1 ?c2 ?c3 ?c4 ?c5 ?_))
        case c1 =>
          intro j u hj2
          rcases j with _ | _ | j
          · simp at hj2; subst hj2; simp [Addr.add]
          · simp at hj2; subst hj2; simp [Addr.add]
          · simp at hj2
        case c2 => intro u hu; simp at hu; rcases hu with rfl | rfl <;> rfl
        case c3 => unfold maxLen; omega
        case c4 => omega
        case c5 => rw [World.size_alloc]; exact Nat.le_succ_of_le HB.out.1.bel.size
        · intro v' w7 hown' hgrow _
          have H7 := Lib.hid (HB.out.1.skipped 1 (grow_alloc hgrow) hown')
          clear hown' hgrow
          go_wp2
          go_roundw
          case rel => exact ⟨u6, v', t.skip 1, rfl, rfl, by show _ = Value.int .i64 ((t.n + 1 : Nat) : Int); go_num, hr, HSK.out.symm, H7.out⟩
          case measure => simp [intOf]; omega
      · by_cases hgs : gs ≤ (eg : Int)
        · have hwhy : whyN ⟨et, eg, ek, ev⟩ gs (t.F eg) = 2 := by unfold whyN; rw [if_neg (by rw [hmb]; decide), if_pos hgs]
          clear c0 c1 cL
          have hsk : pst gs ((recs s.data.toList).take (t.n + 1)) = t.skip 2 := by rw [HST.out, pstep, hwhy]; rfl
          have HSK := Lib.hid hsk
          clear hsk hwhy
          go_wp2_with (at_builtin; go_loud (refine wpList_append_own _ rfl _ _ 24 rfl w.heap.size 33 j0 (.agg #[.int .i64 0, .int .u8 0]) 2 16 Try.underlying24 hj jz0 jz1 jz2 rfl (by decide) u7 t.D.length (drs t.D) rfl (HB.out.1.dr.alloc _) ⟨w5.heap.size, 0, none⟩ 1 1 [.int .i64 t.n, .int .u8 2] rfl rfl ?c1 ?c2 ?c3 ?c4 ?c5 ?_))
          case c1 =>
            intro j u hj2
            rcases j with _ | _ | j
            · simp at hj2; subst hj2; simp [Addr.add]
            · simp at hj2; subst hj2; simp [Addr.add]
            · simp at hj2
          case c2 => intro u hu; simp at hu; rcases hu with rfl | rfl <;> rfl
          case c3 => unfold maxLen; omega
          case c4 => omega
          case c5 => rw [World.size_alloc]; exact Nat.le_succ_of_le HB.out.1.bel.size
          · intro v' w7 hown' hgrow _
            have H7 := Lib.hid (HB.out.1.skipped 2 (grow_alloc hgrow) hown')
            clear hown' hgrow
            go_wp2
            go_roundw
            case rel => exact ⟨u6, v', t.skip 2, rfl, rfl, by show _ = Value.int .i64 ((t.n + 1 : Nat) : Int); go_num, hr, HSK.out.symm, H7.out⟩
            case measure => simp [intOf]; omega
        · by_cases hlt : et < t.F eg
          · have hwhy : whyN ⟨et, eg, ek, ev⟩ gs (t.F eg) = 3 := by unfold whyN; rw [if_neg (by rw [hmb]; decide), if_neg hgs, if_pos hlt]
            have hlt2 : (et : Int) < (t.F eg : Int) := by omega
            go_wp2
            go_quiet (fail)
            have HB2 := Lib.hid (And.intro (HB.out.1.drawn nq) (HB.out.2.drawn nq))
            clear c0 c1 cL HB
            have HB := HB2
            clear HB2 d1
            generalize w5.drewN nq = w6 at HB ⊢
            have hsk : pst gs ((recs s.data.toList).take (t.n + 1)) = t.skip 3 := by rw [HST.out, pstep, hwhy]; rfl
            have HSK := Lib.hid hsk
            clear hsk hwhy
            go_wp2_with (at_builtin; go_loud (refine wpList_append_own _ rfl _ _ 24 rfl w.heap.size 33 j0 (.agg #[.int .i64 0, .int .u8 0]) 2 16 Try.underlying24 hj jz0 jz1 jz2 rfl (by decide) u7 t.D.length (drs t.D) rfl (HB.out.1.dr.alloc _) ⟨w6.heap.size, 0, none⟩ 1 1 [.int .i64 t.n, .int .u8 3] rfl rfl ?c1 ?c2 ?c3 ?c4 ?c5 ?_))
            case c1 =>
              intro j u hj2
              rcases j with _ | _ | j
              · simp at hj2; subst hj2; simp [Addr.add]
              · simp at hj2; subst hj2; simp [Addr.add]
              · simp at hj2
            case c2 => intro u hu; simp at hu; rcases hu with rfl | rfl <;> rfl
            case c3 => unfold maxLen; omega
            case c4 => omega
            case c5 => rw [World.size_alloc]; exact Nat.le_succ_of_le HB.out.1.bel.size
            · intro v' w7 hown' hgrow _
              have H7 := Lib.hid (HB.out.1.skipped 3 (grow_alloc hgrow) hown')
              clear hown' hgrow
              go_wp2
              go_roundw
              case rel => exact ⟨u6, v', t.skip 3, rfl, rfl, by show _ = Value.int .i64 ((t.n + 1 : Nat) : Int); go_num, hr, HSK.out.symm, H7.out⟩
              case measure => simp [intOf]; omega
          · have hwhy : whyN ⟨et, eg, ek, ev⟩ gs (t.F eg) = 0 := by unfold whyN; rw [if_neg (by rw [hmb]; decide), if_neg hgs, if_neg hlt]
            have hlt2 : ¬ (et : Int) < (t.F eg : Int) := by omega
            have hsk : pst gs ((recs s.data.toList).take (t.n + 1)) = t.keep ⟨et, eg, ek, ev⟩ := by rw [HST.out, pstep, hwhy]; rfl
            have HSK := Lib.hid hsk
            clear hsk hwhy
            go_wp2
            go_quiet (fail)
            have HB2 := Lib.hid (And.intro (HB.out.1.drawn nq) (HB.out.2.drawn nq))
            clear c0 c1 cL HB
            have HB := HB2
            clear HB2 d1
            generalize w5.drewN nq = w6 at HB ⊢
            have d0 : w6.cell? ⟨Eb, 0, none⟩ = some (.int .u32 et) := HB.out.2.read 0
            have d1 : w6.cell? ⟨Eb, 1, none⟩ = some (.int .u8 eg) := HB.out.2.read 1
            have dL : w6.cell? ⟨L, eg, none⟩ = some (.int .u32 (t.F eg)) := (HB.out.1.last.read eg).trans (last_at _ _ w2')
            have fL := HB.out.1.last.warm eg
            have HM := Lib.hid (And.intro (HB.out.1.mark eg et w2') (HB.out.2.putFar (p := ⟨L, eg, none⟩) (box_ne HB.out.2 HB.out.1.last (by decide)) (.int .u32 (et : Int))))
            go_wp2_with (first
              | (refine wpList_load_row rfl 46 _ rfl Eb rfl 46 #[.int .u32 et, .int .u8 eg, .int .u8 ek, .int .u32 ev] (0, 0) _ HM.out.2 Try.underlying46 rfl (by kernel_rfl) ?_; generalize (w6.setCell ⟨L, eg, none⟩ (.int .u32 (et : Int))) = w7 at HM ⊢)
              | (at_builtin; go_loud (refine wpList_append_own _ rfl _ _ 23 rfl w.heap.size 46 i0 (.agg #[.int .u32 0, .int .u8 0, .int .u8 0, .int .u32 0]) 4 12 Try.underlying23 hi iz0 iz1 iz2 rfl (by decide) u6 t.K.length (evs t.K) rfl (HM.out.1.ke.alloc _) ⟨w7.heap.size, 0, none⟩ 1 1 (evL ⟨et, eg, ek, ev⟩) rfl rfl ?c1 ?c2 ?c3 ?c4 ?c5 ?_)))
            case c1 =>
              intro j u hj2
              rcases j with _ | _ | _ | _ | j
              · simp [evL] at hj2; subst hj2; simp [Addr.add]
              · simp [evL] at hj2; subst hj2; simp [Addr.add]
              · simp [evL] at hj2; subst hj2; simp [Addr.add]
              · simp [evL] at hj2; subst hj2; simp [Addr.add]
              · simp [evL] at hj2
            case c2 => intro u hu; simp [evL] at hu; rcases hu with rfl | rfl | rfl | rfl <;> rfl
            case c3 => unfold maxLen; omega
            case c4 => omega
            case c5 => rw [World.size_alloc]; exact Nat.le_succ_of_le HM.out.1.bel.size
            · intro v' w8 hown' hgrow _
              have H7 := Lib.hid (HM.out.1.kept (u := t.keep ⟨et, eg, ek, ev⟩) ⟨et, eg, ek, ev⟩ (grow_alloc hgrow) hown' rfl rfl rfl rfl)
              clear hown' hgrow
              go_wp2
              go_roundw
              case rel => exact ⟨v', u7, t.keep ⟨et, eg, ek, ev⟩, rfl, rfl, by show _ = Value.int .i64 ((t.n + 1 : Nat) : Int); go_num, hr, HSK.out.symm, H7.out⟩
              case measure => simp [intOf]; omega
    · have hnN : t.n = s.size / 10 := by omega
      have hall : t = pst gs (recs s.data.toList) := by
        have h := HT.out
        rw [hnN, List.take_of_length_le (by rw [recs_len, HSZ.out]; exact Nat.le_refl _)] at h
        exact h
      have hK : Hid (parK gs s.data.toList = t.K) := Lib.hid (by unfold parK; rw [← hall])
      by_cases hz : s.size % 10 = 0
      · have g1 : ¬ (0 : Int) < (s.size : Int) - (10 * t.n : Nat) := by omega
        have hD : Hid (parD gs s.data.toList = t.D) := Lib.hid (by unfold parD; rw [← hall, HSZ.out, if_pos hz, List.append_nil])
        clear hall hnN
        go_wp2_with (go_at_call 26; refine (left_any HP.out.src).mono ?_; rintro e w' ⟨rfl, rfl⟩)
        rw [Exit.noGoto_ret]
        go_ret2
        rw [hK.out, hD.out]
        exact ⟨_, _, rfl, HP.out.ke, HP.out.dr, HP.out.bel⟩
      · have g1 : (0 : Int) < (s.size : Int) - (10 * t.n : Nat) := by omega
        have g2 : (s.size : Int) - (10 * t.n : Nat) < 10 := by omega
        have hD : Hid (parD gs s.data.toList = t.D ++ [⟨t.n, 1⟩]) := Lib.hid (by unfold parD; rw [← hall, HSZ.out, if_neg hz, hnN])
        clear hall hnN
        go_wp2_with (first
          | (go_at_call 26; refine (left_any HP.out.src).mono ?_; rintro e w' ⟨rfl, rfl⟩)
          | (at_builtin; go_loud (refine wpList_append_own _ rfl _ _ 24 rfl w.heap.size 33 j0 (.agg #[.int .i64 0, .int .u8 0]) 2 16 Try.underlying24 hj jz0 jz1 jz2 rfl (by decide) u7 t.D.length (drs t.D) rfl (HP.out.dr.alloc _) ⟨wr.heap.size, 0, none⟩ 1 1 [.int .i64 t.n, .int .u8 1] rfl rfl ?c1 ?c2 ?c3 ?c4 ?c5 ?_)))
        case c1 =>
          intro j u hj2
          rcases j with _ | _ | j
          · simp at hj2; subst hj2; simp [Addr.add]
          · simp at hj2; subst hj2; simp [Addr.add]
          · simp at hj2
        case c2 => intro u hu; simp at hu; rcases hu with rfl | rfl <;> rfl
        case c3 => unfold maxLen; omega
        case c4 => omega
        case c5 => rw [World.size_alloc]; exact Nat.le_succ_of_le HP.out.bel.size
        · intro v' w7 hown' hgrow _
          have H7 := Lib.hid (HP.out.last_drop (grow_alloc hgrow) hown')
          clear hown' hgrow
          go_wp2
          rw [Exit.noGoto_ret]
          go_ret2
          rw [hK.out, hD.out]
          exact ⟨_, _, rfl, H7.out⟩
end Go.Proofs.Ytilfhkagfjdfkaa
