/- Read-only operations: comparisons, arithmetic, parts of values. -/
import Derived.Test.YtffhbmkpcenkoaaDoorSf
namespace Go.Proofs.YtffhbmkpcenkoaaDoor.Sx
open Go

theorem ofNat_same (a b : Nat) : (UInt8.ofNat a = UInt8.ofNat b) ↔ a % 256 = b % 256 := by
  constructor
  · intro h
    have := congrArg UInt8.toNat h
    simpa using this
  · intro h
    apply UInt8.toNat_inj.1
    simpa using h
theorem strSame_iff : ∀ {l m : List Nat}, strSame l m = true ↔ l.map UInt8.ofNat = m.map UInt8.ofNat
  | [], [] => by simp [strSame]
  | [], _ :: _ => by simp [strSame]
  | _ :: _, [] => by simp [strSame]
  | a :: l, b :: m => by
    simp only [strSame, Bool.and_eq_true, List.map_cons, List.cons.injEq, ofNat_same, strSame_iff, Nat.beq_eq]
theorem str_beq (l m : List Nat) : ((⟨(l.map UInt8.ofNat).toArray⟩ : ByteArray) == ⟨(m.map UInt8.ofNat).toArray⟩) = strSame l m := by
  show ((l.map UInt8.ofNat).toArray == (m.map UInt8.ofNat).toArray) = strSame l m
  rw [Bool.eq_iff_iff, strSame_iff, beq_iff_eq]
  constructor
  · intro h
    have := congrArg Array.toList h
    simpa using this
  · intro h; rw [h]

section
variable {P : Program} {glob : Nat → Option Nat} {e : Env} {S : Nat → Prop} {w0 w : World} {st : St} {h : T} {tm : List V} {a : Act}

theorem eqPlain_ok {pc : Pc} (hh : Holds e.int pc) {t : TypeId} {x y u : V} (hq : eqPlain P pc t x y = .ok u) :
    ∃ c, u = .b c ∧ ∀ d w, (Op.equalIn (d + 1) t (x.den e) (y.den e)).run P w = .ok (tr (c.den e.int)) w := by
  unfold eqPlain at hq
  split at hq
  · rename_i k a k' b' hu
    split at hq
    · rename_i hk
      cases hq
      have hk := kindSame_eq hk
      subst hk
      refine ⟨_, rfl, fun d w => ?_⟩
      simp only [Op.equalIn, Sem.run_bind, run_underlying hu, Result.andThen_ok, V.den, if_true, Sem.run_pure, mkEq_den, tr_bI]
      congr 1
      rw [Bool.eq_iff_iff, ieq_iff, beq_iff_eq]
    · cases hq
  · rename_i a b' hu
    have hb : ∀ d w, (Op.equalIn (d + 1) t ((V.b a).den e) ((V.b b').den e)).run P w = .ok (tr (a.den e.int) == tr (b'.den e.int)) w := fun d w => by
      simp only [Op.equalIn, Sem.run_bind, run_underlying hu, Result.andThen_ok, den_b, Sem.run_pure]
    split at hq
    · rename_i hd
      cases hq
      exact ⟨_, rfl, fun d w => by rw [hb, dec_tr hh hd]; simp⟩
    · rename_i hd
      cases hq
      exact ⟨_, rfl, fun d w => by rw [hb, dec_tr hh hd, mkNot_den, tr_not]; simp⟩
    · split at hq
      · rename_i hd
        cases hq
        exact ⟨_, rfl, fun d w => by rw [hb, dec_tr hh hd]; simp⟩
      · rename_i hd
        cases hq
        exact ⟨_, rfl, fun d w => by rw [hb, dec_tr hh hd, mkNot_den, tr_not]; simp⟩
      · cases hq
  · rename_i l m hu
    cases hq
    refine ⟨_, rfl, fun d w => ?_⟩
    simp only [Op.equalIn, Sem.run_bind, run_underlying hu, Result.andThen_ok, V.den, Sem.run_pure, N.den, tr_bI, str_beq]
  all_goals try (
    rename_i hu
    cases hq
    refine ⟨_, rfl, fun d w => ?_⟩
    simp only [Op.equalIn, Sem.run_bind, run_underlying hu, Result.andThen_ok, V.den, Sem.run_pure, N.den]
    rfl)
  · rename_i e' i o j p hu
    split at hq
    · rename_i n hn
      split at hq
      · rename_i hi
        cases hq
        have hi := beq_true hi
        subst hi
        refine ⟨_, rfl, fun d w => ?_⟩
        simp only [Op.equalIn, Sem.run_bind, run_underlying hu, Result.andThen_ok, V.den, sizeT_run hn, N.den, tr_bI]
        simp [sameAddr]
        rw [Bool.eq_iff_iff]; simp
      · cases hq
    · cases hq
  · cases hq

theorem guard_plain (op : BinOp) (t : TypeId) (ox oy : Operand) (x y : Value) (hx : match x, y with | .nilIface, .nilIface => False | .agg _, .agg _ => False | _, _ => True) (w : World) :
    (eqGuard op t ox oy x y).run P w = .ok () w := by
  unfold eqGuard
  cases op <;> first
    | rfl
    | (cases x <;> cases y <;> first | rfl | exact hx.elim)
theorem guard_const (op : BinOp) (t : TypeId) {ox oy : Operand} (hc : (isConstOp ox || isConstOp oy) = true) (w : World) :
    (eqGuard op t ox oy .nilIface .nilIface).run P w = .ok () w := by
  unfold eqGuard
  unfold isConstOp at hc
  cases op <;> first
    | rfl
    | (cases ox <;> cases oy <;> first | rfl | (simp at hc; done))
theorem equal_of {t : TypeId} {x y : Value} {b : Bool} {w : World} (hd : ∀ d, (Op.equalIn (d + 1 + 1) t x y).run P w = .ok b w) : (Op.equal t x y).run P w = .ok b w := hd 9998

theorem eqV_ok {pc : Pc} (hh : Holds e.int pc) {t : TypeId} {ox oy : Operand} {x y u : V} (hq : eqV P pc t ox oy x y = .ok u) :
    ∃ c, u = .b c ∧ ∀ w, (Op.equal t (x.den e) (y.den e)).run P w = .ok (tr (c.den e.int)) w ∧
      ∀ op, (eqGuard op t ox oy (x.den e) (y.den e)).run P w = .ok () w := by
  unfold eqV at hq
  split at hq
  · rename_i ms hu
    split at hq
    · rename_i hc
      cases hq
      refine ⟨_, rfl, fun w => ⟨equal_of fun d => ?_, fun op => guard_const op t hc w⟩⟩
      simp only [Op.equalIn, Sem.run_bind, run_underlying hu, Result.andThen_ok, V.den, Sem.run_pure, N.den]
      rfl
    · cases hq
  · rename_i ms t' v hu
    cases hq
    refine ⟨_, rfl, fun w => ⟨equal_of fun d => ?_, fun op => guard_plain op t ox oy _ _ trivial w⟩⟩
    simp only [Op.equalIn, Sem.run_bind, run_underlying hu, Result.andThen_ok, V.den, Sem.run_pure, N.den]
    rfl
  · rename_i ms t' v hu
    cases hq
    refine ⟨_, rfl, fun w => ⟨equal_of fun d => ?_, fun op => guard_plain op t ox oy _ _ trivial w⟩⟩
    simp only [Op.equalIn, Sem.run_bind, run_underlying hu, Result.andThen_ok, V.den, Sem.run_pure, N.den]
    rfl
  · rename_i ms t' v t'' v' hu
    split at hq
    · rename_i hne
      cases hq
      refine ⟨_, rfl, fun w => ⟨equal_of fun d => ?_, fun op => guard_plain op t ox oy _ _ trivial w⟩⟩
      simp only [Op.equalIn, Sem.run_bind, run_underlying hu, Result.andThen_ok, V.den, N.den]
      rw [if_pos (beq_false hne)]
      rfl
    · rename_i heq
      have heq := beq_true heq
      subst heq
      split at hq
      · rename_i i hi
        split at hq
        · rename_i hc
          obtain ⟨c, hc1, hc2⟩ := eqPlain_ok hh hq
          refine ⟨c, hc1, fun w => ⟨equal_of fun d => ?_, fun op => guard_plain op t ox oy _ _ trivial w⟩⟩
          rw [Op.equalIn]
          simp only [Sem.run_bind, run_underlying hu, Result.andThen_ok, V.den]
          simp only [ne_eq, not_true_eq_false, if_false, Sem.run_bind, typeInfo, run_program, Result.andThen_ok, hi, Sem.run_pure, hc, Bool.not_true, Bool.false_eq_true]
          exact hc2 d w
        · cases hq
      · cases hq
  · obtain ⟨c, hc1, hc2⟩ := eqPlain_ok hh hq
    refine ⟨c, hc1, fun w => ⟨equal_of fun d => hc2 (d + 1) w, fun op => guard_plain op t ox oy _ _ ?_ w⟩⟩
    unfold eqPlain at hq
    split at hq <;> first | exact trivial | (cases hq; done)
end
end Go.Proofs.YtffhbmkpcenkoaaDoor.Sx
