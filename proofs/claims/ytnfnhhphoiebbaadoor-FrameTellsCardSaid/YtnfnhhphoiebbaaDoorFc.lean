/- Whether windows may be a table: the program's Check. -/
import Derived.Test.YtnfnhhphoiebbaaDoorFb
set_option linter.unusedVariables false
set_option linter.unusedSimpArgs false
namespace Go.Proofs.YtnfnhhphoiebbaaDoor
open Go.RowKit
theorem chk_low {G : Int} {l : List Win} (h : G < 1 ∨ 16 < G) : chk G l = 2 := by unfold chk; rw [if_pos h]
theorem chk_empty {G : Int} {l : List Win} (h : ¬ (G < 1 ∨ 16 < G)) (h0 : l.length = 0) : chk G l = 11 := by unfold chk; rw [if_neg h, if_pos h0]
theorem chk_long {G : Int} {l : List Win} (h : ¬ (G < 1 ∨ 16 < G)) (h0 : l.length ≠ 0) (h1 : 32 < l.length) : chk G l = 5 := by unfold chk; rw [if_neg h, if_neg h0, if_pos h1]
theorem chk_scan {G : Int} {l : List Win} (h : ¬ (G < 1 ∨ 16 < G)) (h0 : l.length ≠ 0) (h1 : ¬ 32 < l.length) (h2 : scan G 0 l ≠ 0) : chk G l = scan G 0 l := by unfold chk; rw [if_neg h, if_neg h0, if_neg h1, if_pos h2]
theorem chk_lack {G : Int} {l : List Win} (h : ¬ (G < 1 ∨ 16 < G)) (h0 : l.length ≠ 0) (h1 : ¬ 32 < l.length) (h2 : scan G 0 l = 0) (h3 : lack G l) : chk G l = 11 := by unfold chk; rw [if_neg h, if_neg h0, if_neg h1, if_neg (fun h => h h2), if_pos h3]
theorem chk_fine {G : Int} {l : List Win} (h : ¬ (G < 1 ∨ 16 < G)) (h0 : l.length ≠ 0) (h1 : ¬ 32 < l.length) (h2 : scan G 0 l = 0) (h3 : ¬ lack G l) : chk G l = 0 := by unfold chk; rw [if_neg h, if_neg h0, if_neg h1, if_neg (fun h => h h2), if_neg h3]
theorem scan_end (G : Int) (l : List Win) (s k : Nat) (h : l.length ≤ k) : scan G s (l.drop k) = 0 := by rw [List.drop_eq_nil_of_le h]; rfl
theorem drop_cons {l : List Win} {k : Nat} {f : Win} (h : l[k]? = some f) : l.drop k = f :: l.drop (k + 1) := by
  obtain ⟨h1, rfl⟩ := List.getElem?_eq_some_iff.1 h
  exact List.drop_eq_getElem_cons h1
theorem scan6 {G : Int} {l : List Win} {s k : Nat} {f : Win} (h : l[k]? = some f) (h1 : f.1 ≠ 255) (h2 : ¬ (f.1 : Int) < G) : scan G s (l.drop k) = 6 := by
  rw [drop_cons h]; unfold scan; rw [if_pos ⟨h1, by omega⟩]
theorem scan2 {G : Int} {l : List Win} {s k : Nat} {f : Win} (h : l[k]? = some f) (h1 : f.1 = 255 ∨ (f.1 : Int) < G) (h2 : f.2 = 0) : scan G s (l.drop k) = 2 := by
  rw [drop_cons h]; unfold scan; rw [if_neg (by omega), if_pos h2]
theorem scan5 {G : Int} {l : List Win} {s k : Nat} {f : Win} (h : l[k]? = some f) (h1 : f.1 = 255 ∨ (f.1 : Int) < G) (h2 : f.2 ≠ 0) (h3 : 1024 < s + f.2) : scan G s (l.drop k) = 5 := by
  rw [drop_cons h]; unfold scan; rw [if_neg (by omega), if_neg h2, if_pos h3]
theorem scan_go {G : Int} {l : List Win} {s k : Nat} {f : Win} (h : l[k]? = some f) (h1 : f.1 = 255 ∨ (f.1 : Int) < G) (h2 : f.2 ≠ 0) (h3 : ¬ 1024 < s + f.2) : scan G s (l.drop k) = scan G (s + f.2) (l.drop (k + 1)) := by
  rw [drop_cons h]; conv => lhs; unfold scan
  rw [if_neg (by omega), if_neg h2, if_neg h3]
/-- How things stand behind k windows. -/
structure Ck (w : World) (G : Int) (l : List Win) (h : Nat) (wr : World) (k st : Nat) (F : Nat → Bool) : Prop where
  box : Box wr h 65 (hasA F)
  bel : Below h w wr
  top : st ≤ 1024
  sc : scan G 0 l = scan G st (l.drop k)
  has : ∀ g : Nat, g < 16 → (F g = true ↔ (g : Int) < G ∧ ∃ v ∈ l.take k, v.1 = g)
theorem take_next {l : List Win} {k : Nat} {f : Win} (h : l[k]? = some f) (g : Nat) : (∃ v ∈ l.take (k + 1), v.1 = g) ↔ (∃ v ∈ l.take k, v.1 = g) ∨ f.1 = g := by
  rw [List.take_add_one, h]
  constructor
  · rintro ⟨v, hv, rfl⟩
    rcases List.mem_append.1 hv with hv | hv
    · exact .inl ⟨v, hv, rfl⟩
    · simp at hv
      exact .inr (by rw [hv])
  · rintro (⟨v, hv, rfl⟩ | rfl)
    · exact ⟨v, List.mem_append_left _ hv, rfl⟩
    · exact ⟨f, List.mem_append_right _ (by simp), rfl⟩
theorem has_in {G : Int} {l : List Win} {k : Nat} {F : Nat → Bool} {f : Win} (h : l[k]? = some f) (hin : (f.1 : Int) < G) (hh : ∀ g : Nat, g < 16 → (F g = true ↔ (g : Int) < G ∧ ∃ v ∈ l.take k, v.1 = g)) : ∀ g : Nat, g < 16 → (upd F f.1 g = true ↔ (g : Int) < G ∧ ∃ v ∈ l.take (k + 1), v.1 = g) := fun g hg => by
  rw [take_next h]
  unfold upd
  by_cases e : g = f.1
  · subst e
    simp [hin]
  · rw [if_neg e, hh g hg]
    have : ¬ f.1 = g := fun h => e h.symm
    simp [this]
theorem has_out {G : Int} {l : List Win} {k : Nat} {F : Nat → Bool} {f : Win} (h : l[k]? = some f) (hin : ¬ (f.1 : Int) < G) (hh : ∀ g : Nat, g < 16 → (F g = true ↔ (g : Int) < G ∧ ∃ v ∈ l.take k, v.1 = g)) : ∀ g : Nat, g < 16 → (F g = true ↔ (g : Int) < G ∧ ∃ v ∈ l.take (k + 1), v.1 = g) := fun g hg => by
  rw [take_next h, hh g hg]
  constructor
  · rintro ⟨a, b⟩
    exact ⟨a, .inl b⟩
  · rintro ⟨a, b | b⟩
    · exact ⟨a, b⟩
    · subst b; exact absurd a hin
theorem lack_iff {G : Int} {l : List Win} {k : Nat} {F : Nat → Bool} (hG : G ≤ 16) (hk : l.length ≤ k) (hh : ∀ g : Nat, g < 16 → (F g = true ↔ (g : Int) < G ∧ ∃ v ∈ l.take k, v.1 = g)) (n : Nat) (hn : (n : Int) = G) : (∃ g, g < n ∧ F g = false) ↔ lack G l := by
  rw [List.take_of_length_le hk] at hh
  constructor
  · rintro ⟨g, hg, hf⟩
    refine ⟨g, by omega, fun v hv e => ?_⟩
    have := (hh g (by omega)).2 ⟨by omega, v, hv, e⟩
    rw [hf] at this
    cases this
  · rintro ⟨g, hg, hv⟩
    refine ⟨g, by omega, ?_⟩
    cases hF : F g with
    | false => rfl
    | true =>
      obtain ⟨_, v, hm, e⟩ := (hh g (by omega)).1 hF
      exact absurd e (hv v hm)
theorem Ck.hle {w wr : World} {G : Int} {l : List Win} {h k st : Nat} {F : Nat → Bool} (c : Ck w G l h wr k st F) : h ≤ wr.heap.size := Nat.le_of_lt c.box.inHeap
theorem Ck.next_in {w wr : World} {G : Int} {l : List Win} {h k st : Nat} {F : Nat → Bool} (c : Ck w G l h wr k st F) {f1 f2 : Nat} (hk : l[k]? = some (f1, f2)) (hin : (f1 : Int) < G) (h16 : f1 < 16) (hs : scan G 0 l = scan G (st + f2) (l.drop (k + 1))) (ht : st + f2 ≤ 1024) (o : Obj) : Ck w G l h ((wr.setCell ⟨h, f1, none⟩ (.bool true)).alloc o) (k + 1) (st + f2) (upd F f1) :=
  ⟨by rw [← hasA_set F f1 h16]; exact (c.box.put f1 _).more o, (c.bel.setCell (Nat.le_refl _) _).alloc (by simpa [World.setCell] using c.hle) o, ht, hs, has_in hk hin c.has⟩
theorem Ck.next_out {w wr : World} {G : Int} {l : List Win} {h k st : Nat} {F : Nat → Bool} (c : Ck w G l h wr k st F) {f1 f2 : Nat} (hk : l[k]? = some (f1, f2)) (hin : ¬ (f1 : Int) < G) (hs : scan G 0 l = scan G (st + f2) (l.drop (k + 1))) (ht : st + f2 ≤ 1024) (o : Obj) : Ck w G l h (wr.alloc o) (k + 1) (st + f2) F :=
  ⟨c.box.more o, c.bel.alloc c.hle o, ht, hs, has_out hk hin c.has⟩
open Classical in
theorem check_any (G : Int) (a : Option Addr) (n cap : Nat) (l : List Win) (w : World) (hG1 : -9223372036854775808 ≤ G) (hG2 : G ≤ 9223372036854775807) (hn : n ≤ 9223372036854775807) (hf : IsWins w a n l) : Calls Tryd.prog 22 #[.slice a n cap, .int .i64 G] w fun e w' => e = .returned (.int .i64 (chk G l : Nat)) ∧ Below w.heap.size w w' := by
  have hl := hf.1
  by_cases h1 : G < 1
  · have HV := Lib.hid (chk_low (l := l) (.inl h1))
    clear hf
    go_enter Tryd.func22, Tryd.ntmps22
    go_wp2
    go_ret
    exact ⟨retN HV.out.symm, Below.refl _ _⟩
  · by_cases h2 : 16 < G
    · have HV := Lib.hid (chk_low (l := l) (.inr h2))
      clear hf
      go_enter Tryd.func22, Tryd.ntmps22
      go_wp2
      go_ret
      exact ⟨retN HV.out.symm, Below.refl _ _⟩
    · have hr : ¬ (G < 1 ∨ 16 < G) := by omega
      by_cases h3 : n = 0
      · have HV := Lib.hid (chk_empty (l := l) hr (by omega))
        have e3 : ((n : Int) == 0) = true := by simp [h3]
        clear hf hr
        go_enter Tryd.func22, Tryd.ntmps22
        go_wp2
        go_ret
        exact ⟨retN HV.out.symm, Below.refl _ _⟩
      · have e3 : ((n : Int) == 0) = false := beq_eq_false_iff_ne.2 (by omega)
        by_cases h4 : 32 < n
        · have HV := Lib.hid (chk_long (l := l) hr (by omega) (by omega))
          clear hf hr h3
          go_enter Tryd.func22, Tryd.ntmps22
          go_wp2
          go_ret
          exact ⟨retN HV.out.symm, Below.refl _ _⟩
        · have HV := Lib.hid (And.intro (chk_scan (l := l) hr (by omega) (by omega)) (And.intro (chk_lack (l := l) hr (by omega) (by omega)) (chk_fine (l := l) hr (by omega) (by omega))))
          have HF := Lib.hid hf
          have HL := Lib.hid hl
          have HG := Lib.hid (And.intro (show 1 ≤ G by omega) (show G ≤ 16 by omega))
          clear hf hr h3 hl
          go_enter Tryd.func22, Tryd.ntmps22
          go_wp2
          generalize hh : w.heap.size = h
          have HH := Lib.hid hh
          clear hh
          go_loopw [5, 27] (fun s i wr => ∃ (k st : Nat) (F : Nat → Bool), k ≤ n ∧ s = .int .i64 st ∧ i = .int .i64 k ∧ Ck w G l h wr k st F) (fun _ i _ => n - (intOf i).toNat)
          case atStart =>
            refine ⟨0, 0, fun _ => false, Nat.zero_le _, rfl, rfl, ⟨?_, ?_, by omega, rfl, fun g hg => ⟨fun h => (by cases h), fun ⟨_, v, hv, _⟩ => (by simp at hv)⟩⟩⟩
            · rw [← HH.out]; exact Box.made w 65 _
            · rw [← HH.out]; exact Below.alloc (Below.refl _ _) (Nat.le_refl _) _
          case round =>
            obtain ⟨k, st, F, hk, rfl, rfl, hst⟩ := hrel
            have k1 : (0 : Int) ≤ (k : Int) := Int.natCast_nonneg _
            have s1 : (0 : Int) ≤ (st : Int) := Int.natCast_nonneg _
            have s2 : (st : Int) ≤ 1024 := by have := hst.top; omega
            have hsz : w.heap.size ≤ wr.heap.size := by have := hst.bel.size; exact this
            by_cases hlt : k < n
            · have k2 : (k : Int) < (n : Int) := by omega
              obtain ⟨⟨f1, f2⟩, hkf⟩ : ∃ f, l[k]? = some f := ⟨_, List.getElem?_eq_getElem (by rw [HL.out]; exact hlt)⟩
              obtain ⟨⟨b1, b2⟩, bk, off, rfl, hc⟩ := win_at HF.out hkf
              obtain ⟨c0, c1⟩ := hc wr (by rw [HH.out]; exact hst.bel)
              dsimp only at b1 b2 c0 c1
              have p1 : (0 : Int) ≤ (f1 : Int) := Int.natCast_nonneg _
              have p2 : (f1 : Int) < 256 := by omega
              have q1 : (0 : Int) ≤ (f2 : Int) := Int.natCast_nonneg _
              have q2 : (f2 : Int) < 65536 := by omega
              have HK := Lib.hid hkf
              have HT := Lib.hid hst
              clear hst hc hkf
              have hx : ∀ x, scan G 0 l = x → x ≠ 0 → chk G l = x := fun x h1 h2 => (HV.out.1 (by rw [h1]; exact h2)).trans h1
              have hsc := HT.out.sc
              by_cases hin : (f1 : Int) < G
              · by_cases hz : f2 = 0
                · have HX := Lib.hid (hx 2 (hsc.trans (scan2 HK.out (.inr hin) hz)) (by decide))
                  have e5 : ((f2 : Int) == 0) = true := by simp [hz]
                  clear hx hsc hz
                  go_wp2
                  go_ret
                  exact ⟨retN HX.out.symm, by rw [HH.out]; exact HT.out.bel.alloc HT.out.hle _⟩
                · have e5 : ((f2 : Int) == 0) = false := beq_eq_false_iff_ne.2 (by omega)
                  by_cases ht : 1024 < st + f2
                  · have HX := Lib.hid (hx 5 (hsc.trans (scan5 HK.out (.inr hin) hz ht)) (by decide))
                    have t1 : (1024 : Int) < (st : Int) + (f2 : Int) := by omega
                    clear hx hsc hz ht
                    go_wp2
                    go_ret
                    exact ⟨retN HX.out.symm, by rw [HH.out]; exact HT.out.bel.alloc HT.out.hle _⟩
                  · have HX := Lib.hid (And.intro (hsc.trans (scan_go HK.out (.inr hin) hz ht)) ht)
                    have t1 : ¬ (1024 : Int) < (st : Int) + (f2 : Int) := by omega
                    have t2 : decide ((1024 : Int) < (st : Int) + (f2 : Int)) = false := decide_eq_false t1
                    have p3 : (f1 : Int) < 16 := by have := HG.out.2; omega
                    have hb : h < wr.heap.size := HT.out.box.inHeap
                    have cf := HT.out.box.warm f1
                    have cv : wr.cell? ⟨h, f1, none⟩ = some (.bool (F f1)) := (HT.out.box.read f1).trans (hasA_at F f1 (by omega))
                    clear hx hsc hz ht
                    go_wp2
                    go_roundw
                    case rel => exact ⟨k + 1, st + f2, upd F f1, by omega, by go_num, by go_num, HT.out.next_in HK.out hin (by omega) HX.out.1 (by have := HX.out.2; omega) _⟩
                    case measure => simp [intOf]; omega
              · by_cases hy : f1 = 255
                · have e4 : ((f1 : Int) != 255) = false := by simp [hy]
                  by_cases hz : f2 = 0
                  · have HX := Lib.hid (hx 2 (hsc.trans (scan2 HK.out (.inl hy) hz)) (by decide))
                    have e5 : ((f2 : Int) == 0) = true := by simp [hz]
                    have hi2 : decide ((f1 : Int) < G) = false := decide_eq_false hin
                    clear hx hsc hz hy hin
                    go_wp2
                    go_ret
                    exact ⟨retN HX.out.symm, by rw [HH.out]; exact HT.out.bel.alloc HT.out.hle _⟩
                  · have e5 : ((f2 : Int) == 0) = false := beq_eq_false_iff_ne.2 (by omega)
                    have hi2 : decide ((f1 : Int) < G) = false := decide_eq_false hin
                    by_cases ht : 1024 < st + f2
                    · have HX := Lib.hid (hx 5 (hsc.trans (scan5 HK.out (.inl hy) hz ht)) (by decide))
                      have t1 : (1024 : Int) < (st : Int) + (f2 : Int) := by omega
                      clear hx hsc hz ht hy hin
                      go_wp2
                      go_ret
                      exact ⟨retN HX.out.symm, by rw [HH.out]; exact HT.out.bel.alloc HT.out.hle _⟩
                    · have HX := Lib.hid (And.intro (hsc.trans (scan_go HK.out (.inl hy) hz ht)) (And.intro ht hin))
                      have t1 : ¬ (1024 : Int) < (st : Int) + (f2 : Int) := by omega
                      have t2 : decide ((1024 : Int) < (st : Int) + (f2 : Int)) = false := decide_eq_false t1
                      clear hx hsc hz ht hy hin
                      go_wp2
                      go_roundw
                      case rel => exact ⟨k + 1, st + f2, F, by omega, by go_num, by go_num, HT.out.next_out HK.out HX.out.2.2 HX.out.1 (by have := HX.out.2.1; omega) _⟩
                      case measure => simp [intOf]; omega
                · have e4 : ((f1 : Int) != 255) = true := bne_iff_ne.2 (by omega)
                  have HX := Lib.hid (hx 6 (hsc.trans (scan6 HK.out hy hin)) (by decide))
                  have hi2 : decide ((f1 : Int) < G) = false := decide_eq_false hin
                  clear hx hsc hin hy
                  go_wp2
                  go_ret
                  exact ⟨retN HX.out.symm, by rw [HH.out]; exact HT.out.bel.alloc HT.out.hle _⟩
            · have hk3 : k = n := by omega
              have hs0 : scan G 0 l = 0 := hst.sc.trans (scan_end G l st k (by rw [HL.out]; omega))
              have HT := Lib.hid hst
              have gi : ((G.toNat : Nat) : Int) = G := by have := HG.out; omega
              have HB := Lib.hid (lack_iff (by have := HG.out; omega) (by rw [HL.out]; omega) hst.has G.toNat gi)
              have HC := Lib.hid (contains_any h G.toNat F wr (by have := HG.out; omega) hst.box)
              have h3 := HV.out.2
              clear hst
              generalize hgn : G.toNat = gn at gi HC HB
              clear hgn
              subst gi
              have g0 : (0 : Int) ≤ (gn : Int) := Int.natCast_nonneg _
              by_cases hla : lack gn l
              · have HX := Lib.hid (h3.1 hs0 hla)
                have HD := Lib.hid (decide_eq_true (HB.out.2 hla))
                clear h3 hs0 hla hlt
                go_wp2_with (go_at_call 31; refine HC.out.mono ?_; rintro e w' ⟨rfl, rfl⟩; rw [HD.out])
                go_ret
                exact ⟨retN HX.out.symm, by rw [HH.out]; exact HT.out.bel⟩
              · have HX := Lib.hid (h3.2 hs0 hla)
                have HD := Lib.hid (decide_eq_false (fun h => hla (HB.out.1 h)))
                clear h3 hs0 hla hlt
                go_wp2_with (go_at_call 31; refine HC.out.mono ?_; rintro e w' ⟨rfl, rfl⟩; rw [HD.out])
                go_ret
                exact ⟨retN HX.out.symm, by rw [HH.out]; exact HT.out.bel⟩
end Go.Proofs.YtnfnhhphoiebbaaDoor
