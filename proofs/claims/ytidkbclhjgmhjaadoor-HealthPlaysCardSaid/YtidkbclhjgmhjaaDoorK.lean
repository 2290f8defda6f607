/- The document's monitor: Pending, Take. -/
import Derived.Test.YtidkbclhjgmhjaaDoorJ
set_option linter.unusedVariables false
set_option linter.unusedSimpArgs false
namespace Go.Proofs.YtidkbclhjgmhjaaDoor
open Go.RowKit
def pendL (R : List Int) : Int := R.foldl (fun a x => if 1 < x ∧ a < x then x else a) 0
theorem pendL_snoc (R : List Int) (x : Int) : pendL (R ++ [x]) = if 1 < x ∧ pendL R < x then x else pendL R := by
  unfold pendL
  rw [List.foldl_append]
  rfl
theorem foldL_bd : ∀ (R : List Int) (a : Int), (∀ x ∈ R, x < 5) → 0 ≤ a → a ≤ 4 → 0 ≤ R.foldl (fun a x => if 1 < x ∧ a < x then x else a) a ∧ R.foldl (fun a x => if 1 < x ∧ a < x then x else a) a ≤ 4
  | [], a, _, h0, h4 => ⟨h0, h4⟩
  | x :: R, a, h, h0, h4 => by
    have hx := h x (by simp)
    rw [List.foldl_cons]
    refine foldL_bd R _ (fun y hy => h y (List.mem_cons_of_mem _ hy)) ?_ ?_
    · split <;> omega
    · split <;> omega
theorem pendL_bd (R : List Int) (h : ∀ x ∈ R, x < 5) : 0 ≤ pendL R ∧ pendL R ≤ 4 := foldL_bd R 0 h (by decide) (by decide)
def pendH (R : List Int) (h : Bool) : Int := if h = true then 0 else pendL R
section
variable {w w' : World} {C : Nat} {T : Nat → Int} {pg li rs r : Int} {R : List Int} {h : Bool} {K : Nat → Prop} {v : Value}
set_option maxHeartbeats 1000000 in
theorem dpend_any (hv : Dv w C T pg li rs R r h K v) (hn : R.length ≤ 1000) : Calls Tryd.prog 14 #[.pointer (some ⟨C, 0, none⟩)] w fun e w' => e = .returned (.int .u8 (pendH R h)) ∧ w = w' := by
  obtain ⟨a, cap, rfl, hne⟩ := hv.lane.shape
  have hlen : (raws R).length = R.length := by simp [raws]
  have c20 : w.cell? ⟨C, 20, none⟩ = some (.slice a (raws R).length cap) := hv.box.read 20
  have c22 : w.cell? ⟨C, 22, none⟩ = some (.bool h) := hv.box.read 22
  have hl := hv.lane
  rw [hlen] at c20 hl
  clear hv
  cases h with
  | true =>
    by_cases h0 : 0 < R.length
    · have hp : (0 : Int) < (R.length : Int) := by omega
      go_enter Tryd.func14, Tryd.ntmps14
      go_wp2_with fail
      refine wp_loop_rounds 1 ?_
      rw [rounds_succ]
      go_wp2_with fail
      go_ret
      exact ⟨rfl, rfl⟩
    · have hz : R.length = 0 := by omega
      rw [hz] at c20
      go_enter Tryd.func14, Tryd.ntmps14
      go_wp2_with fail
      refine wp_loop_rounds 1 ?_
      rw [rounds_succ]
      go_wp2_with fail
      go_ret
      exact ⟨rfl, rfl⟩
  | false =>
    have HL := Lib.hid (And.intro hl hne)
    clear hl hne
    go_enter Tryd.func14, Tryd.ntmps14
    go_wp2_with fail
    go_loop [3, 4] (fun x i => ∃ k : Nat, k ≤ R.length ∧ i = .int .i64 k ∧ x = .int .u8 (pendL (R.take k))) (fun _ i => R.length - (intOf i).toNat)
    case atStart => exact ⟨0, Nat.zero_le _, rfl, rfl⟩
    case round =>
      obtain ⟨k, hk, rfl, rfl⟩ := hrel
      have k1 : (0 : Int) ≤ (k : Int) := Int.natCast_nonneg _
      by_cases hlt : k < R.length
      · obtain ⟨z, hz⟩ : ∃ z, R[k]? = some z := ⟨_, List.getElem?_eq_getElem hlt⟩
        obtain ⟨g, off, rfl⟩ := HL.out.2 (by intro e; have h0 : (raws R).length = 0 := by rw [e]; rfl
                                             omega)
        have ce := HL.out.1.cell k (.int .u8 z) (by simp [raws, hz])
        have k2 : (k : Int) < (R.length : Int) := by omega
        have hs : pendL (R.take (k + 1)) = if 1 < z ∧ pendL (R.take k) < z then z else pendL (R.take k) := by
          rw [List.take_add_one, hz]; exact pendL_snoc _ _
        generalize pendL (R.take k) = p at hs ⊢
        by_cases h1 : 1 < z
        · by_cases h2 : p < z
          · rw [if_pos ⟨h1, h2⟩] at hs
            have HS := Lib.hid hs
            clear hs
            go_wp2_with fail
            go_round
            case rel => exact ⟨k + 1, by omega, by go_num, by rw [HS.out]⟩
            case measure => simp [intOf]; omega
          · rw [if_neg (fun h => h2 h.2)] at hs
            have HS := Lib.hid hs
            clear hs
            go_wp2_with fail
            go_round
            case rel => exact ⟨k + 1, by omega, by go_num, by rw [HS.out]⟩
            case measure => simp [intOf]; omega
        · rw [if_neg (fun h => h1 h.1)] at hs
          have HS := Lib.hid hs
          clear hs
          go_wp2_with fail
          go_round
          case rel => exact ⟨k + 1, by omega, by go_num, by rw [HS.out]⟩
          case measure => simp [intOf]; omega
      · obtain rfl : k = R.length := by omega
        have HT : Hid (pendL (R.take R.length) = pendL R) := Lib.hid (by rw [List.take_length])
        go_wp2_with fail
        go_ret
        exact ⟨rfl, rfl⟩
theorem Dv.put (hv : Dv w C T pg li rs R r h K v) (i : Nat) (u : Value) (r' : Int) (h' : Bool) (e : (dmon T pg li rs v r h).setIfInBounds i u = dmon T pg li rs v r' h') : Dv (w.setCell ⟨C, i, none⟩ u) C T pg li rs R r' h' K v :=
  ⟨box_eq (hv.box.put i u) e, hv.lane.putFar hv.box (by decide) u, hv.kC, hv.kv⟩
theorem Dv.drawn (hv : Dv w C T pg li rs R r h K v) (n : Nat) : Dv (w.drewN n) C T pg li rs R r h K v := ⟨hv.box.drawn n, hv.lane.drawn n, hv.kC, hv.kv⟩
theorem Dv.nil (hv : Dv w C T pg li rs R r h K v) : Dv (w.setCell ⟨C, 20, none⟩ (.slice none 0 0)) C T pg li rs [] r h K (.slice none 0 0) :=
  ⟨box_eq (hv.box.put 20 _) (by kernel_rfl), Lane.nil _ _, hv.kC, fun k h => by cases h⟩
set_option maxHeartbeats 2000000 in
theorem dtake_any (hv : Dv w C T pg li rs R r h K v) (hn : R.length ≤ 1000) (h0 : 0 ≤ pendH R h) (h4 : pendH R h ≤ 4) (hr : 0 ≤ r) (hr1 : r ≤ rs) (hm : rs ≤ 255) : Calls Tryd.prog 10 #[.pointer (some ⟨C, 0, none⟩)] w fun e w' => e = .returned (.int .u8 (takes rs (pendH R h) r)) ∧ Dv w' C T pg li rs [] (again rs (pendH R h) r) (halts rs (pendH R h) r h) K (.slice none 0 0) ∧ Touch K w w' := by
  have hp := dpend_any hv hn
  generalize pendH R h = p at hp h0 h4 ⊢
  have HP := Lib.hid hp
  have c20 : w.cell? ⟨C, 20, none⟩ = some v := hv.box.read 20
  have f20 := hv.box.warm 20
  have h1 := hv.nil
  have HT : Hid (Touch K w (w.setCell ⟨C, 20, none⟩ (.slice none 0 0))) := Lib.hid ((Touch.refl K w).put (p := ⟨C, 20, none⟩) (.inl hv.kC) _)
  have H1 := Lib.hid h1
  have hw : ∀ o, w.cell? ⟨C, o, none⟩ = (dmon T pg li rs v r h)[o]? := hv.box.read
  clear hp hv h1
  by_cases hp0 : p = 0
  · subst hp0
    go_enter Tryd.func10, Tryd.ntmps10
    go_wp2_with (go_at_call 14; refine HP.out.mono ?_; rintro e w' ⟨rfl, rfl⟩)
    go_ret
    exact ⟨rfl, H1.out, HT.out⟩
  · by_cases hp4 : p = 4
    · subst hp4
      have ea : again rs 4 r = r := by simp [again]
      have eh : halts rs 4 r h = true := by simp [halts]
      have et : takes rs 4 r = 4 := by simp [takes]
      rw [ea, eh, et]
      clear hw ea eh et
      go_enter Tryd.func10, Tryd.ntmps10
      go_wp2_with (go_at_call 14; refine HP.out.mono ?_; rintro e w' ⟨rfl, rfl⟩)
      generalize w.setCell ⟨C, 20, none⟩ (.slice none 0 0) = w1 at H1 HT ⊢
      have c21 : w1.cell? ⟨C, 21, none⟩ = some (.int .i64 r) := H1.out.box.read 21
      have c2 : w1.cell? ⟨C, 2, none⟩ = some (.int .u8 rs) := H1.out.box.read 2
      go_quiet (fail)
      have H2 := Lib.hid (H1.out.drawn nq)
      have HT2 := Lib.hid (HT.out.drawn nq)
      clear c20 f20 c21 c2
      generalize World.drewN w1 nq = w2 at H2 HT2 ⊢
      have c22 : w2.cell? ⟨C, 22, none⟩ = some (.bool h) := H2.out.box.read 22
      have f22 := H2.out.box.warm 22
      have H3 := Lib.hid (H2.out.put 22 (.bool true) r true (by kernel_rfl))
      have HT3 := Lib.hid (HT2.out.put (p := ⟨C, 22, none⟩) (.inl H2.out.kC) (.bool true))
      go_wp2_with fail
      go_ret
      exact ⟨rfl, H3.out, HT3.out⟩
    · by_cases hrm : r = rs
      · subst hrm
        have ea : again r p r = r := by simp [again]
        have eh : halts r p r h = true := by simp [halts, hp0]
        have et : takes r p r = 4 := by simp [takes, hp0]
        rw [ea, eh, et]
        have t0 : (p == 0) = false := beq_eq_false_iff_ne.2 hp0
        have t4 : (p == 4) = false := beq_eq_false_iff_ne.2 hp4
        clear hw ea eh et
        go_enter Tryd.func10, Tryd.ntmps10
        go_wp2_with (go_at_call 14; refine HP.out.mono ?_; rintro e w' ⟨rfl, rfl⟩)
        generalize w.setCell ⟨C, 20, none⟩ (.slice none 0 0) = w1 at H1 HT ⊢
        have c21 : w1.cell? ⟨C, 21, none⟩ = some (.int .i64 r) := H1.out.box.read 21
        have c2 : w1.cell? ⟨C, 2, none⟩ = some (.int .u8 r) := H1.out.box.read 2
        have hwr : IntKind.i64.wrap r = r := IntWalk.i64_in _ (by omega)
        go_quiet (fail)
        have H2 := Lib.hid (H1.out.drawn nq)
        have HT2 := Lib.hid (HT.out.drawn nq)
        clear c20 f20 c21 c2
        generalize World.drewN w1 nq = w2 at H2 HT2 ⊢
        have c22 : w2.cell? ⟨C, 22, none⟩ = some (.bool h) := H2.out.box.read 22
        have f22 := H2.out.box.warm 22
        have H3 := Lib.hid (H2.out.put 22 (.bool true) r true (by kernel_rfl))
        have HT3 := Lib.hid (HT2.out.put (p := ⟨C, 22, none⟩) (.inl H2.out.kC) (.bool true))
        go_wp2_with fail
        go_ret
        exact ⟨rfl, H3.out, HT3.out⟩
      · have ea : again rs p r = r + 1 := by simp [again, hp0, hp4, hrm]
        have eh : halts rs p r h = h := by simp [halts, hp4, hrm]
        have et : takes rs p r = p := by simp [takes, hp0, hp4, hrm]
        rw [ea, eh, et]
        have t0 : (p == 0) = false := beq_eq_false_iff_ne.2 hp0
        have t4 : (p == 4) = false := beq_eq_false_iff_ne.2 hp4
        have tr : (r == rs) = false := beq_eq_false_iff_ne.2 hrm
        have hwr : IntKind.i64.wrap rs = rs := IntWalk.i64_in _ (by omega)
        clear hw ea eh et hrm
        go_enter Tryd.func10, Tryd.ntmps10
        go_wp2_with (go_at_call 14; refine HP.out.mono ?_; rintro e w' ⟨rfl, rfl⟩)
        generalize w.setCell ⟨C, 20, none⟩ (.slice none 0 0) = w1 at H1 HT ⊢
        have c21 : w1.cell? ⟨C, 21, none⟩ = some (.int .i64 r) := H1.out.box.read 21
        have c2 : w1.cell? ⟨C, 2, none⟩ = some (.int .u8 rs) := H1.out.box.read 2
        go_quiet (fail)
        have H2 := Lib.hid (H1.out.drawn nq)
        have HT2 := Lib.hid (HT.out.drawn nq)
        clear c20 f20 c21 c2
        generalize World.drewN w1 nq = w2 at H2 HT2 ⊢
        have c21 : w2.cell? ⟨C, 21, none⟩ = some (.int .i64 r) := H2.out.box.read 21
        have f21 := H2.out.box.warm 21
        have H3 := Lib.hid (H2.out.put 21 (.int .i64 (r + 1)) (r + 1) h (by kernel_rfl))
        have HT3 := Lib.hid (HT2.out.put (p := ⟨C, 21, none⟩) (.inl H2.out.kC) (.int .i64 (r + 1)))
        go_wp2_with fail
        go_ret
        exact ⟨rfl, H3.out, HT3.out⟩
end
end Go.Proofs.YtidkbclhjgmhjaaDoor
