/- ClintPlays: of all numbers and all rows, the law answers true: from place to place of its text, in every order that Go leaves open. -/
import Derived.Test.YtjfgmfkcagjkoaaUClintPlaysF
namespace Go.Proofs.Ytjfgmfkcagjkoaa
open Go.ChangeShapes Go.WideShapes Go.ChangeAt Go.RowKit

theorem Try.own : ownKnob Try.prog.godebug = none := by kernel_rfl
theorem Try.laidOut : laidOutB Try.prog = true := by kernel_rfl


theorem law_any   (sa : Option Addr) (len cap : Nat) (w : World) (hrow : Sx.IsRow [some .u8, some .u8, some .u64, some .u64, some .i64] w sa len cap) :
    Calls Try.prog 3 #[.slice sa len cap] w fun e w' => e = .returned (.bool true) ∧ Below w.heap.size w w' := by
  rcases hrow with ⟨rfl, rfl, rfl⟩ | ⟨a, rfl, hmax, hrow⟩
  · have ha : (Sx.V.denL (Sx.rowEnv (fun j => [0].getD j 0) ⟨0, 0, none⟩ 0 5 w) Sx.nilArgs).toArray = #[.slice none 0 0] := by
      show (#[.slice none 0 0] : Array Value) = _
      rfl
    have := Sx.law_of_places (w0 := w) (ps := []) (exc := []) (Sx.ev_ok (Sx.noBase_ok _ _) (by kernel_rfl) _) (by kernel_rfl) Try.func3 (show Try.f3.body = some Sx.lawBody from rfl) Sx.noGlob_any (by intro q hq; cases hq) (by intro p hp; cases hp) (by intro p hp; cases hp) Sx.nil_yes (e := Sx.rowEnv (fun j => [0].getD j 0) ⟨0, 0, none⟩ 0 5 w) (by simp [Sx.nilArgs, Sx.V.okL, Sx.V.ok]) Sx.gok_none (Sx.rep0 _ w) (fun c t h => by cases h)
    rw [ha] at this
    exact this
  · by_cases h0 : len = 0
    · subst h0
      have ha : (Sx.V.denL (Sx.rowEnv (fun j => [0].getD j 0) a cap 5 w) Sx.emptyArgs).toArray = #[.slice (some a) 0 cap] := by
        show (#[.slice (some a) (0 : Int).toNat cap] : Array Value) = _
        rfl
      have := Sx.law_of_places (w0 := w) (ps := []) (exc := []) (Sx.ev_ok (Sx.noBase_ok _ _) (by kernel_rfl) _) (by kernel_rfl) Try.func3 (show Try.f3.body = some Sx.lawBody from rfl) Sx.noGlob_any (by intro q hq; cases hq) (by intro p hp; cases hp) (by intro p hp; cases hp) Sx.empty_yes (e := Sx.rowEnv (fun j => [0].getD j 0) a cap 5 w) (by simp [Sx.emptyArgs, Sx.V.okL, Sx.V.ok, Sx.T.has, Sx.hpOf, Sx.T.set, Sx.T.get]) Sx.gok_none (Sx.rep_none _ a cap 5 w) (fun c t h => by cases h)
      rw [ha] at this
      exact this
    · have cl : (max (0 : Int) (min 9223372036854775807 (len : Int))).toNat = len := by omega
      have ha : (Sx.V.denL (Sx.rowEnv (fun j => [(len : Int)].getD j 0) a cap 5 w) Sx.lawArgs0).toArray = #[.slice (some a) len cap] := by
        show (#[.slice (some a) (max 0 (min 9223372036854775807 (len : Int))).toNat cap] : Array Value) = _
        rw [cl]
      have := Sx.law_of_places (w0 := w) (Sx.ev_ok (Sx.noBase_ok _ _) (by kernel_rfl) _) (by kernel_rfl) Try.func3 (show Try.f3.body = some Sx.lawBody from rfl) Sx.noGlob_any (by intro q hq; cases hq) Sx.places0_yes Sx.places0_paths Sx.start0_yes (e := Sx.rowEnv (fun j => [(len : Int)].getD j 0) a cap 5 w) (by simp [Sx.lawArgs0, Sx.V.okL, Sx.V.ok, Sx.T.has, Sx.start0, Sx.hpOf, Sx.lawHp0, Sx.T.set, Sx.T.get]) Sx.gok_none
        (Sx.rep_row (ks := [some .u8, some .u8, some .u64, some .u64, some .i64]) (lv := 0) (by decide) (by decide) (by omega) (by decide) rfl hmax hrow) (fun c t h => by cases h)
      rw [ha] at this
      exact this
set_option maxRecDepth 100000 in
theorem law_lifted (os : Os) (started : os.Started) (H : Type) (enc : TypeId × Value → H) :
    ReturnsInHanded {} Try.checked os 3 .any (Rows.clintPlaysSpec.pre6 enc Try.prog Try.f3 Rows.clintPlaysRow.domain false) (Rows.clintPlaysSpec.post enc Try.prog Try.f3 false true false false) := by
  refine returnsInHanded_of_change (C := Try.checked) Try.own started (by kernel_rfl) Try.func3
    (ChangeSpec.witness6 (enc := enc) (C := Try.checked) false ⟨#[], #[.slice none 0 0], []⟩ 8 (by kernel_rfl) (by kernel_rfl) (by kernel_rfl) (by kernel_rfl)) ?_
  intro W base args ds gs before hval0 hW hcnd _
  have hval : ∀ (j : Nat) t v, Try.f3.params[j]? = some t → args[j]? = some v → Value.okWide Try.prog W .any base t v := hval0
  have hW' := hW
  obtain ⟨p, q, hA0, hV, rfl, hfz, hnd⟩ := hW
  have hA : DataW.TrodAll enc Try.prog W 0 (fun _ => true) true Try.f3.params.toList args.toList ds p := hA0
  rw [Try.params3] at hA hval
  obtain ⟨v0, vs0, d0, ds0, p0, q0, hargs, rfl, rfl, h0, r0⟩ := trodAll_cons hA
  obtain ⟨rfl, rfl, rfl⟩ := trodAll_nil r0
  obtain rfl : args = #[v0] := by cases args; simp_all
  obtain ⟨rfl, rfl⟩ := trodVars_none hV
  have k0 := h0
  have lt0 : ∀ x ∈ p0, x.block < W.heap.size := by obtain ⟨m, hm⟩ := h0; exact DataW.trod_lt m _ _ _ hm
  obtain ⟨sa, len, cap, rfl⟩ := okWide_slice Try.underlying22 (hval 0 22 v0 rfl rfl)
  have hrow := Sx.open_rows Try.underlying22 (ks := [some .u8, some .u8, some .u64, some .u64, some .i64]) (by kernel_rfl) h0
  clear hA0 hval0
  refine (law_any   sa len cap W hrow).mono fun e W' ⟨he, bel⟩ => ?_
  subst he
  exact ⟨_, rfl, _, _, _, [], _, [], hW', trodAll_mk1 (shut_bool Try.underlying4 _), (trodAll_cons_mk (Below.trod Try.laidOut (by kernel_rfl) (of_decide_eq_true (by kernel_rfl)) k0 bel lt0) trodAll_mk0), rfl, bel.frame _, fun h => by cases h⟩

theorem law_over : Rows.clintPlaysRow.holds Try.pinned (OpenSpec.ofChange Rows.clintPlaysSpec) :=
  OpenClaim.holds_of_wide 3 Try.f3 rfl rfl rfl rfl rfl rfl rfl ⟨rfl, rfl, rfl, rfl, rfl⟩ rfl rfl rfl rfl rfl (by kernel_rfl) Try.func3 (by kernel_rfl)
    (of_decide_eq_true (by kernel_rfl)) (by unfold Func.isWrapper; first | (rw [if_pos (by decide +kernel)]; kernel_rfl) | (rw [if_neg (by decide +kernel)]; exact ⟨rfl, rfl⟩))
    (fun os started H enc _ => law_lifted os started H enc)

theorem clintPlays_holds : Rows.ClintPlaysSaid := law_over
end Go.Proofs.Ytjfgmfkcagjkoaa
