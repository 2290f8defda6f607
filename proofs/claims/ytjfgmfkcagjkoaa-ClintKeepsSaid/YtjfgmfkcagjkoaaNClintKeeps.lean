/- ClintKeeps: of all rows of acts, and any act more, the law answers true: from place to place of its text, in every order that Go leaves open. -/
import Derived.Test.YtjfgmfkcagjkoaaUClintKeepsF
namespace Go.Proofs.Ytjfgmfkcagjkoaa
open Go.ChangeShapes Go.WideShapes Go.ChangeAt Go.RowKit

theorem Try.own : ownKnob Try.prog.godebug = none := by kernel_rfl
theorem Try.laidOut : laidOutB Try.prog = true := by kernel_rfl

theorem rowEnv_int (i : Nat → Int) (a : Addr) (cap z : Nat) (w : World) {j : Nat} (h : j < 1000) : (Sx.rowEnv i a cap z w).int j = i j := by
  have hb : Nat.blt j 1000 = true := by rw [Nat.blt_eq]; exact h
  simp only [Sx.rowEnv, hb]

theorem law_any {H : Type} {enc : TypeId × Value → H} {W : World} {base b0 : Nat} {r : Reach} {sp : Nat → Bool} {held : Bool} {sa : Option Addr} {len cap : Nat} {v1 : Value} {ds : List (DataW H)} {ps : List MemPlace}
    (hA : DataW.TrodAll enc Try.prog W base sp held Try.f4.params.toList [.slice sa len cap, v1] ds ps) (hval : ∀ (j : Nat) t v, Try.f4.params.toList[j]? = some t → [Value.slice sa len cap, v1][j]? = some v → Value.okWide Try.prog W r b0 t v)
    (hrow : Sx.IsRow [some .u8, some .u8, some .u64, some .u64, some .i64] W sa len cap) :
    Calls Try.prog 4 #[.slice sa len cap, v1] W fun e w' => e = .returned (.bool true) ∧ Below W.heap.size W w' := by
  have fin : ∀ {e : Sx.Env} {l : List Sx.V}, Sx.V.denL e l = [.slice sa len cap, v1] → Calls Try.prog 4 (Sx.V.denL e l).toArray W (fun e w' => e = .returned (.bool true) ∧ Below W.heap.size W w') → Calls Try.prog 4 #[.slice sa len cap, v1] W fun e w' => e = .returned (.bool true) ∧ Below W.heap.size W w' := fun h1 h2 => by
    rw [h1] at h2; exact h2
  rcases hrow with ⟨rfl, rfl, rfl⟩ | ⟨a, rfl, hmax, hrow⟩
  · have hargs := Sx.open_args (Sx.rowEnv (Sx.intsOf Sx.nilPs [.slice none 0 0, v1] []) ⟨0, 0, none⟩ 0 5 W) (l := Sx.nilPs) (i := 0) (g := []) (by kernel_rfl) hA hval
      (by
        intro j v n u h hu
        rcases j with _ | _ | j
        · simp [Sx.nilPs] at h hu
          rw [← h.1, ← hu]; rfl
        · simp [Sx.nilPs] at h
        · simp [Sx.nilPs] at h) (by decide) (fun j hj => by rw [Nat.zero_add] at hj ⊢; rw [rowEnv_int _ _ _ _ _ hj]; rfl)
    exact fin hargs (Sx.law_of_places (w0 := W) (Sx.ev_ok (Sx.noBase_ok _ _) (by kernel_rfl) _) (by kernel_rfl) Try.func4 (show Try.f4.body = some Sx.lawBody from rfl) Sx.noGlob_any (by intro q hq; cases hq) Sx.places0_yes Sx.places0_paths Sx.nil_yes (by simp [Sx.nilArgs, Sx.nilPs, Sx.psV, Sx.cellsV, Sx.cellV, Sx.V.okL, Sx.V.ok]) Sx.gok_none (Sx.rep0 _ W) (fun c t h => by cases h))
  · by_cases h0 : len = 0
    · subst h0
      have hargs := Sx.open_args (Sx.rowEnv (Sx.intsOf Sx.emptyPs [.slice (some a) 0 cap, v1] []) a cap 5 W) (l := Sx.emptyPs) (i := 0) (g := []) (by kernel_rfl) hA hval
        (by
          intro j v n u h hu
          rcases j with _ | _ | j
          · simp [Sx.emptyPs] at h hu
            rw [← h.1, ← hu]; rfl
          · simp [Sx.emptyPs] at h
          · simp [Sx.emptyPs] at h) (by decide) (fun j hj => by rw [Nat.zero_add] at hj ⊢; rw [rowEnv_int _ _ _ _ _ hj]; rfl)
      exact fin hargs (Sx.law_of_places (w0 := W) (Sx.ev_ok (Sx.noBase_ok _ _) (by kernel_rfl) _) (by kernel_rfl) Try.func4 (show Try.f4.body = some Sx.lawBody from rfl) Sx.noGlob_any (by intro q hq; cases hq) Sx.places0_yes Sx.places0_paths Sx.empty_yes (by simp [Sx.emptyArgs, Sx.emptyPs, Sx.psV, Sx.cellsV, Sx.cellV, Sx.V.okL, Sx.V.ok, Sx.T.has, Sx.hpOf, Sx.T.set, Sx.T.get]) Sx.gok_none (Sx.rep_none _ a cap 5 W) (fun c t h => by cases h))
    · have hargs := Sx.open_args (Sx.rowEnv (Sx.intsOf Sx.lawPs0 [.slice (some a) len cap, v1] [(len : Int)]) a cap 5 W) (l := Sx.lawPs0) (i := 0) (g := [(len : Int)]) (by kernel_rfl) hA hval
        (by
          intro j v n u h hu
          rcases j with _ | _ | j
          · simp [Sx.lawPs0] at h hu
            rw [← h.1, ← hu]
            have e0 : (Sx.N.var 0 0 9223372036854775807).den (Sx.rowEnv (Sx.intsOf Sx.lawPs0 [.slice (some a) len cap, v1] [(len : Int)]) a cap 5 W).int = (len : Int) := by
              simp only [Sx.N.den, rowEnv_int _ _ _ _ _ (show 0 < 1000 by decide)]
              have : Sx.intsOf Sx.lawPs0 [.slice (some a) len cap, v1] [(len : Int)] 0 = (len : Int) := rfl
              rw [this]; omega
            simp only [Sx.V.den, e0]
            rfl
          · simp [Sx.lawPs0] at h
          · simp [Sx.lawPs0] at h) (by decide) (fun j hj => by rw [Nat.zero_add] at hj ⊢; rw [rowEnv_int _ _ _ _ _ hj]; rfl)
      exact fin hargs (Sx.law_of_places (w0 := W) (Sx.ev_ok (Sx.noBase_ok _ _) (by kernel_rfl) _) (by kernel_rfl) Try.func4 (show Try.f4.body = some Sx.lawBody from rfl) Sx.noGlob_any (by intro q hq; cases hq) Sx.places0_yes Sx.places0_paths Sx.start0_yes (by simp [Sx.lawArgs0, Sx.psV, Sx.cellsV, Sx.cellV, Sx.V.okL, Sx.V.ok, Sx.T.has, Sx.start0, Sx.hpOf, Sx.lawHp0, Sx.T.set, Sx.T.get]) Sx.gok_none
        (Sx.rep_row (ks := [some .u8, some .u8, some .u64, some .u64, some .i64]) (lv := 0) (by decide) (by decide) (by omega) (by decide) rfl hmax hrow) (fun c t h => by cases h))

set_option maxRecDepth 100000 in
theorem law_lifted (os : Os) (started : os.Started) (H : Type) (enc : TypeId × Value → H) :
    ReturnsInHanded {} Try.checked os 4 .any (Rows.clintKeepsSpec.pre6 enc Try.prog Try.f4 Rows.clintKeepsRow.domain false) (Rows.clintKeepsSpec.post enc Try.prog Try.f4 false true false false) := by
  refine returnsInHanded_of_change (C := Try.checked) Try.own started (by kernel_rfl) Try.func4
    (ChangeSpec.witness6 (enc := enc) (C := Try.checked) false ⟨#[], #[.slice none 0 0, .agg #[.int .u8 0, .int .u8 0, .int .u64 0, .int .u64 0, .int .i64 0]], []⟩ 8 (by kernel_rfl) (by kernel_rfl) (by kernel_rfl) (by kernel_rfl)) ?_
  intro W base args ds gs before hval0 hW hcnd _
  have hW' := hW
  obtain ⟨p, q, hA0, hV, rfl, hfz, hnd⟩ := hW
  have hA : DataW.TrodAll enc Try.prog W 0 (fun _ => true) true Try.f4.params.toList args.toList ds p := hA0
  have hval : ∀ (j : Nat) t v, Try.f4.params[j]? = some t → args[j]? = some v → Value.okWide Try.prog W .any base t v := hval0
  obtain ⟨rfl, rfl⟩ := trodVars_none hV
  have hA2 := hA
  rw [Try.params4] at hA2
  obtain ⟨v0, vs0, d0, ds0, p0, q0, hargs, rfl, rfl, h0, r0⟩ := trodAll_cons hA2
  obtain ⟨v1, vs1, d1, ds1, p1, q1, rfl, rfl, rfl, h1, r1⟩ := trodAll_cons r0
  obtain ⟨rfl, rfl, rfl⟩ := trodAll_nil r1
  obtain rfl : args = #[v0, v1] := by cases args; simp_all
  have hv0 := hval 0 22 v0 (by rw [Try.params4]; rfl) rfl
  obtain ⟨sa, len, cap, rfl⟩ := okWide_slice Try.underlying22 hv0
  have hrow := Sx.open_rows Try.underlying22 (ks := [some .u8, some .u8, some .u64, some .u64, some .i64]) (by kernel_rfl) h0
  clear hA0 hval0
  refine (law_any hA (fun j t v a b => hval j t v (by simpa using a) (by simpa using b)) hrow).mono fun e W' ⟨he, bel⟩ => ?_
  subst he
  exact ⟨_, rfl, _, _, _, [], _, [], hW', trodAll_mk1 (shut_bool Try.underlying4 _), Sx.trodAll_below Try.laidOut bel (by kernel_rfl) hA, rfl, bel.frame _, fun h => by cases h⟩

theorem law_over : Rows.clintKeepsRow.holds Try.pinned (OpenSpec.ofChange Rows.clintKeepsSpec) :=
  OpenClaim.holds_of_wide 4 Try.f4 rfl rfl rfl rfl rfl rfl rfl ⟨rfl, rfl, rfl, rfl, rfl⟩ rfl rfl rfl rfl rfl (by kernel_rfl) Try.func4 (by kernel_rfl)
    (of_decide_eq_true (by kernel_rfl)) (by unfold Func.isWrapper; first | (rw [if_pos (by decide +kernel)]; kernel_rfl) | (rw [if_neg (by decide +kernel)]; exact ⟨rfl, rfl⟩))
    (fun os started H enc _ => law_lifted os started H enc)

theorem clintKeeps_holds : Rows.ClintKeepsSaid := law_over
end Go.Proofs.Ytjfgmfkcagjkoaa
