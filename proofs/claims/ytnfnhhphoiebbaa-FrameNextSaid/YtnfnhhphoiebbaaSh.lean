/- Read-only operations: arithmetic, conversions, parts, places, lengths. -/
import Derived.Test.YtnfnhhphoiebbaaSg
set_option linter.unusedVariables false
set_option linter.unusedSimpArgs false
namespace Go.Proofs.Ytnfnhhphoiebbaa.Sx
open Go

section
variable {P : Program} {glob : Nat → Option Nat} {e : Env} {S : Nat → Prop} {w0 w : World} {st : St} {h : T} {tm : List V} {a : Act}

theorem tr_not' (b : Bool) : tr (bI (ieq (bI b) 0)) = !b := by cases b <;> rfl
theorem ieq_beq (a b : Int) : ieq a b = (a == b) := by rw [Bool.eq_iff_iff, ieq_iff, beq_iff_eq]
theorem ilt_dec (a b : Int) : ilt a b = decide (a < b) := by rw [Bool.eq_iff_iff, ilt_iff, decide_eq_true_iff]

theorem shV_ok {pc : Pc} (hh : Holds e.int pc) {f : BinOp} {k : IntKind} {a b : N} {u : V} (hq : shV pc f k a b = .ok u) : u.den e = .int k (arF f k (a.den e.int) (b.den e.int)) ∧ V.ok h u := by
  unfold shV at hq
  split at hq
  · rename_i n hn
    cases hq
    refine ⟨?_, trivial⟩
    simp only [V.den, mkAr_den, known_ok hh hn, N.den]
  · split at hq
    · cases hq
    · cases hq
      refine ⟨?_, trivial⟩
      simp only [V.den, mkAr_den]
theorem outN_den {pc : Pc} (hh : Holds e.int pc) (b : N) : (outN pc b).den e.int = b.den e.int := by
  unfold outN
  split
  · rename_i n hn
    rw [known_ok hh hn]; rfl
  · rfl
theorem cmpV_ok {pc : Pc} {a b c : N} {u : V} (hq : cmpV pc a b c = .ok u) : u = .b c := by
  unfold cmpV at hq
  split at hq
  · cases hq
  · split at hq
    · cases hq
    · cases hq; rfl
theorem binInt_ok {pc : Pc} (hh : Holds e.int pc) {f : BinOp} {t : TypeId} {ox oy : Operand} {k l : IntKind} {x y : N} {u : V}
    (hq : binV P pc f t ox oy (.n k x) (.n l y) = .ok u) (w : World) :
    (binOp f t (.int k (x.den e.int)) (.int l (y.den e.int))).run P w = .ok (u.den e) w ∧ V.ok h u := by
  cases f <;> simp only [binV] at hq
  case shl | shr =>
    split at hq
    · rename_i hd
      have h0 := dec_tr hh hd
      rw [mkLt_den, tr_bI, ilt_false] at h0
      have h0' : ¬ (y.den e.int < 0) := by simp only [N.den] at h0; omega
      obtain ⟨hu, hv⟩ := shV_ok (h := h) hh hq
      refine ⟨?_, hv⟩
      rw [hu]
      simp only [binOp, Op.shift, if_neg h0', Sem.run_pure, (arF_shift k _ _).1, (arF_shift k _ _).2]
    · cases hq
    · cases hq
  case quo | rem =>
    split at hq
    · rename_i hs
      have hs := kindSame_eq hs
      subst hs
      split at hq
      · rename_i hd
        cases hq
        have h0 := dec_tr hh hd
        rw [mkEq_den, tr_bI, ieq_false] at h0
        have h0' : ¬ (y.den e.int = 0) := h0
        refine ⟨?_, trivial⟩
        simp [binOp, Op.intDiv, h0', V.den, mkAr_den, outN_den hh, (arF_div k _ _).1, (arF_div k _ _).2]
      · cases hq
      · cases hq
    · cases hq
  all_goals
    have hs : kindSame k l = true := by
      cases hs : kindSame k l
      · rw [hs] at hq; cases hq
      · rfl
    rw [hs] at hq
    have hs := kindSame_eq hs
    subst hs
    first
      | (cases hq; refine ⟨?_, trivial⟩)
      | (have hq := cmpV_ok hq; subst hq; refine ⟨?_, trivial⟩)
  case add => simp [binOp, Op.intArith, V.den, mkAr_den, (arF_arith k _ _).1]
  case sub => simp [binOp, Op.intArith, V.den, mkAr_den, (arF_arith k _ _).2.1]
  case mul => simp [binOp, Op.intArith, V.den, mkAr_den, (arF_arith k _ _).2.2]
  case and => simp only [binOp, Op.intBits, V.den, mkAr_den, (arF_bits k _ _).1, ne_eq, not_true_eq_false, if_false]; rfl
  case or => simp only [binOp, Op.intBits, V.den, mkAr_den, (arF_bits k _ _).2.1, ne_eq, not_true_eq_false, if_false]; rfl
  case xor => simp only [binOp, Op.intBits, V.den, mkAr_den, (arF_bits k _ _).2.2.1, ne_eq, not_true_eq_false, if_false]; rfl
  case andNot => simp only [binOp, Op.intBits, V.den, mkAr_den, (arF_bits k _ _).2.2.2, ne_eq, not_true_eq_false, if_false]; rfl
  case eql => simp [binOp, Op.intCmp, den_b, mkEq_den, tr_bI, ieq_beq]
  case neq =>
    rw [den_b, mkNot_den, mkEq_den, tr_not', ieq_beq]
    simp [binOp, Op.intCmp, bne]
  case lss => simp [binOp, Op.intCmp, den_b, mkLt_den, tr_bI, ilt_dec]
  case gtr => simp [binOp, Op.intCmp, den_b, mkLt_den, tr_bI, ilt_dec]
  case leq =>
    simp [binOp, Op.intCmp, den_b, mkNot_den, mkLt_den, tr_not', ilt_dec]
    by_cases hc : x.den e.int ≤ y.den e.int
    · rw [decide_eq_true hc, decide_eq_false (by omega)]; rfl
    · rw [decide_eq_false hc, decide_eq_true (by omega)]; rfl
  case geq =>
    simp [binOp, Op.intCmp, den_b, mkNot_den, mkLt_den, tr_not', ilt_dec]
    by_cases hc : y.den e.int ≤ x.den e.int
    · rw [decide_eq_true hc, decide_eq_false (by omega)]; rfl
    · rw [decide_eq_false hc, decide_eq_true (by omega)]; rfl

theorem list_beq (l m : List Nat) : ((l.map UInt8.ofNat) == (m.map UInt8.ofNat)) = strSame l m := by
  rw [Bool.eq_iff_iff, strSame_iff, beq_iff_eq]
theorem data_list (l : List Nat) : (⟨(l.map UInt8.ofNat).toArray⟩ : ByteArray).data.toList = l.map UInt8.ofNat := by simp

theorem binOp_eql (t : TypeId) (x y : Value) (hx : ∀ k n, x ≠ .int k n) (hs : ∀ s, x ≠ .string s) (hf : ∀ k n, x ≠ .float k n) (hc : ∀ k n m, x ≠ .complex k n m) :
    binOp .eql t x y = (do pure (.bool (← Op.equal t x y))) ∧ binOp .neq t x y = (do pure (.bool (!(← Op.equal t x y)))) := by
  cases x <;> first
    | exact absurd rfl (hx _ _)
    | exact absurd rfl (hs _)
    | exact absurd rfl (hf _ _)
    | exact absurd rfl (hc _ _ _)
    | exact ⟨rfl, rfl⟩

theorem binV_ok {pc : Pc} (hh : Holds e.int pc) {f : BinOp} {t : TypeId} {ox oy : Operand} {x y u : V} (hx : V.ok h x) (hy : V.ok h y) (hq : binV P pc f t ox oy x y = .ok u) (w : World) :
    (do eqGuard f t ox oy (x.den e) (y.den e); binOp f t (x.den e) (y.den e) : Sem Value).run P w = .ok (u.den e) w ∧ V.ok h u := by
  unfold binV at hq
  split at hq
  · rename_i k x l y
    have := binInt_ok (P := P) (h := h) hh (f := f) (t := t) (ox := ox) (oy := oy) (k := k) (l := l) (x := x) (y := y) (u := u) hq w
    refine ⟨?_, this.2⟩
    rw [Sem.run_bind, guard_plain f t ox oy _ _ trivial w]
    exact this.1
  · rename_i l m
    have g := guard_plain (P := P) f t ox oy ((V.s l).den e) ((V.s m).den e) trivial w
    split at hq
    · split at hq
      · rename_i hb
        have hb := Nat.le_of_ble_eq_true hb
        cases hq
        refine ⟨?_, trivial⟩
        rw [Sem.run_bind, g, Result.andThen_ok]
        have hs : ∀ l : List Nat, (⟨(l.map UInt8.ofNat).toArray⟩ : ByteArray).size = l.length := fun l => by simp [ByteArray.size]
        simp only [V.den, binOp, Op.stringOp, hs]
        have : ¬ (((l.length + m.length : Nat) : Int) > IntKind.i64.max) := by
          have : IntKind.i64.max = 9223372036854775807 := rfl
          omega
        rw [if_neg this]
        simp only [Sem.run_pure]
        congr 2
        apply ByteArray.ext
        simp
      · cases hq
    · cases hq
      refine ⟨?_, trivial⟩
      rw [Sem.run_bind, g, Result.andThen_ok]
      simp only [V.den, binOp, Op.stringOp, Sem.run_pure, ByteArray.toList_eq, data_list, list_beq]
      show _ = Result.ok (Value.bool (tr (bI _))) w
      rw [tr_bI]
    · cases hq
      refine ⟨?_, trivial⟩
      rw [Sem.run_bind, g, Result.andThen_ok]
      simp only [V.den, binOp, Op.stringOp, Sem.run_pure, ByteArray.toList_eq, data_list, list_beq]
      show _ = Result.ok (Value.bool (tr (bI _))) w
      rw [tr_bI]
      cases strSame l m <;> rfl
    · cases hq
  · have hno : ∀ {u : V}, eqV P pc t ox oy x y = .ok u → (∀ k n, x.den e ≠ .int k n) ∧ (∀ s, x.den e ≠ .string s) ∧ (∀ k n, x.den e ≠ .float k n) ∧ (∀ k n m, x.den e ≠ .complex k n m) := fun {u} hu => by
      rename_i h1 h2
      unfold eqV at hu
      split at hu
      · exact ⟨by intros; exact Value.noConfusion, by intros; exact Value.noConfusion, by intros; exact Value.noConfusion, by intros; exact Value.noConfusion⟩
      · exact ⟨by intros; exact Value.noConfusion, by intros; exact Value.noConfusion, by intros; exact Value.noConfusion, by intros; exact Value.noConfusion⟩
      · exact ⟨by intros; exact Value.noConfusion, by intros; exact Value.noConfusion, by intros; exact Value.noConfusion, by intros; exact Value.noConfusion⟩
      · exact ⟨by intros; exact Value.noConfusion, by intros; exact Value.noConfusion, by intros; exact Value.noConfusion, by intros; exact Value.noConfusion⟩
      · exact ⟨by intros; exact Value.noConfusion, by intros; exact Value.noConfusion, by intros; exact Value.noConfusion, by intros; exact Value.noConfusion⟩
      · unfold eqPlain at hu
        split at hu <;> first
          | exact (h1 _ _ _ _ rfl rfl).elim
          | exact (h2 _ _ rfl rfl).elim
          | exact ⟨by intros; exact Value.noConfusion, by intros; exact Value.noConfusion, by intros; exact Value.noConfusion, by intros; exact Value.noConfusion⟩
          | (cases hu; done)
    split at hq
    · obtain ⟨c, rfl, hc⟩ := eqV_ok (h := h) hh hx hy hq
      obtain ⟨n1, n2, n3, n4⟩ := hno hq
      refine ⟨?_, trivial⟩
      rw [Sem.run_bind, (hc w).2, Result.andThen_ok, (binOp_eql t _ _ n1 n2 n3 n4).1, Sem.run_bind, (hc w).1, Result.andThen_ok]
      rfl
    · unfold notQ at hq
      split at hq
      · rename_i x' he
        cases hq
        obtain ⟨c, hc0, hc⟩ := eqV_ok (h := h) hh hx hy he
        cases hc0
        obtain ⟨n1, n2, n3, n4⟩ := hno he
        refine ⟨?_, trivial⟩
        rw [Sem.run_bind, (hc w).2, Result.andThen_ok, (binOp_eql t _ _ n1 n2 n3 n4).2, Sem.run_bind, (hc w).1, Result.andThen_ok, den_b, mkNot_den, tr_not]
        rfl
      · cases hq
      · rename_i h1 h2
        exact (h2 _ hq).elim
    · cases hq

theorem unV_ok {f : UnOp} {x u : V} (hq : unV f x = .ok u) (w : World) : (Op.unary f (x.den e)).run P w = .ok (u.den e) w ∧ V.ok h u := by
  unfold unV at hq
  split at hq
  · cases hq
    exact ⟨by simp [Op.unary, Op.intArith, V.den, mkAr_den, (arF_arith _ _ _).2.1, N.den], trivial⟩
  · rename_i k x
    cases hq
    refine ⟨?_, trivial⟩
    cases k <;> (simp only [V.den, mkAr_den, (arF_bits _ _ _).2.2.1, N.den]; rfl)
  · cases hq
    exact ⟨by simp [Op.unary, den_b, mkNot_den, tr_not], trivial⟩
  · cases hq

theorem convV_ok {s d : TypeId} {x u : V} (hq : convV P s d x = .ok u) (w : World) : (convert s d (x.den e)).run P w = .ok (u.den e) w ∧ V.ok h u := by
  unfold convV at hq
  split at hq
  · rename_i k _ a hs hd
    cases hq
    refine ⟨?_, trivial⟩
    simp only [convert, Sem.run_bind, run_underlying hs, run_underlying hd, Result.andThen_ok, V.den, Conv.intToInt, Sem.run_pure, mkConv_den, wrapF_eq]
  · rename_i l hs hd
    cases hq
    refine ⟨?_, trivial⟩
    simp only [convert, Sem.run_bind, run_underlying hs, run_underlying hd, Result.andThen_ok, V.den, Sem.run_pure]
  · cases hq

theorem pickV_ok {pc : Pc} (hh : Holds e.int pc) {a : N} {len : Nat} {k : Nat → Q} {u : V} : ∀ (n : Nat) (j : Int), pickV pc a len k n j = .ok u →
    ∃ i, a.den e.int = Int.ofNat i ∧ i < len ∧ k i = .ok u
  | 0, j, hq => by cases hq
  | n + 1, j, hq => by
    simp only [pickV] at hq
    split at hq
    · rename_i hd
      have ht := dec_tr hh hd
      rw [mkEq_den, tr_bI] at ht
      split at hq
      · rename_i i
        split at hq
        · rename_i hlt
          refine ⟨i, ?_, by simpa [Nat.blt_eq] using hlt, hq⟩
          exact (ieq_iff _ _).1 ht
        · cases hq
      · cases hq
    · exact pickV_ok hh n (j + 1) hq
    · cases hq
theorem indexV_ok {pc : Pc} (hh : Holds e.int pc) {ix : V} {len : Nat} {k : Nat → Q} {u : V} (hq : indexV pc ix len k = .ok u) :
    ∃ kd a i, ix = .n kd a ∧ a.den e.int = Int.ofNat i ∧ i < len ∧ k i = .ok u := by
  unfold indexV at hq
  split at hq
  · rename_i kd a
    split at hq
    · rename_i i hk
      split at hq
      · rename_i hlt
        exact ⟨kd, a, i, rfl, known_ok hh hk, by simpa [Nat.blt_eq] using hlt, hq⟩
      · cases hq
    · cases hq
    · split at hq
      · split at hq
        · obtain ⟨i, h1, h2, h3⟩ := pickV_ok hh _ _ hq
          exact ⟨kd, a, i, rfl, h1, h2, h3⟩
        · cases hq
      · cases hq
  · cases hq

theorem addr_add (b o n : Nat) : (⟨b, o, none⟩ : Addr).add n = ⟨b, o + n, none⟩ := by unfold Addr.add; split <;> simp_all

theorem add_add2 (a : Addr) (m n : Nat) : (a.add m).add n = a.add (m + n) := by
  obtain ⟨x, y, z⟩ := a
  unfold Addr.add
  by_cases hm : m = 0 <;> by_cases hn : n = 0 <;> cases z <;> simp [hm, hn, Nat.add_assoc]
theorem fieldAddrV_ok {s : TypeId} {x u : V} {f : Nat} (hx : V.ok h x) (hq : fieldAddrV P s x f = .ok u) (w : World) : (Instr.fieldAt s (x.den e) f).run P w = .ok (u.den e) w ∧ V.ok h u := by
  unfold fieldAddrV at hq
  split at hq
  · rename_i fs hu
    split at hq
    · rename_i fd i off hf
      split at hq
      · rename_i n hn
        cases hq
        refine ⟨?_, hx⟩
        simp [Instr.fieldAt, run_underlying hu, hf, Instr.sureAddr, V.den, fieldPlace, sizeT_run hn, addr_add]
      · cases hq
    · rename_i fd i ix z off hf
      split at hq
      · rename_i n hn
        cases hq
        refine ⟨?_, hx⟩
        simp [Instr.fieldAt, run_underlying hu, hf, Instr.sureAddr, V.den, fieldPlace, sizeT_run hn, add_add2, Nat.add_assoc]
      · cases hq
    · cases hq
  · cases hq
theorem fieldV_ok {s : TypeId} {x u : V} {f : Nat} (hx : V.ok h x) (hq : fieldV P s x f = .ok u) (w : World) : (Instr.field s (x.den e) f).run P w = .ok (u.den e) w ∧ V.ok h u := by
  unfold fieldV at hq
  split at hq
  · rename_i fs hu
    split at hq
    · rename_i fd l hf
      have := partV_ok (e := e) (h := h) (l := l) hx hq w
      refine ⟨?_, this.2⟩
      simp [Instr.field, run_underlying hu, hf, asAgg, V.den, this.1]
    · cases hq
  · cases hq
theorem indexAddrV_ok {pc : Pc} (hh : Holds e.int pc) {t : TypeId} {x ix u : V} (hx : V.ok h x) (hq : indexAddrV P pc t x ix = .ok u) (w : World) :
    (Instr.indexAt t (x.den e) (ix.den e)).run P w = .ok (u.den e) w ∧ V.ok h u := by
  unfold indexAddrV at hq
  split at hq
  · rename_i len elem i off hu
    split at hq
    · rename_i n hn
      obtain ⟨kd, a, j, rfl, hj, hlt, hk⟩ := indexV_ok hh hq
      cases hk
      refine ⟨?_, hx⟩
      have h2 : (0 : Int) ≤ (j : Int) ∧ (j : Int) < (len : Int) := by omega
      simp [Instr.indexAt, run_underlying hu, asIntOf, V.den, Instr.sureAddr, hj, sizeT_run hn, addr_add, hlt]
    · cases hq
  · rename_i elem i off len cap hu
    split at hq
    · rename_i n hn
      obtain ⟨kd, a, j, rfl, hj, hlt, hk⟩ := indexV_ok hh hq
      cases hk
      refine ⟨?_, hx⟩
      simp [Instr.indexAt, run_underlying hu, asIntOf, V.den, hj, sizeT_run hn, addr_add, hlt]
    · cases hq
  · rename_i elem i off eoff len hu
    split at hq
    · rename_i n hn
      obtain ⟨kd, a, j, rfl, hj, hlt, hk⟩ := indexV_ok hh hq
      cases hk
      refine ⟨?_, hx⟩
      simp [Instr.indexAt, run_underlying hu, asIntOf, V.den, hj, sizeT_run hn, addr_add, hlt]
    · cases hq
  · rename_i elem i len hu
    split at hq
    · rename_i n kd a hn
      split at hq
      · rename_i hr
        cases hq
        obtain ⟨hlt, h0⟩ := inRow_ok hh hr
        refine ⟨?_, hx⟩
        have h1 : (a.den e.int).toNat < (len.den e.int).toNat := by omega
        have h2 : ((len.den e.int).toNat : Int) = len.den e.int := by omega
        have h3 : 0 ≤ a.den e.int ∧ a.den e.int < ((len.den e.int).toNat : Int) := by omega
        simp only [Instr.indexAt, V.den, asIntOf, Sem.run_bind, Sem.run_pure, Result.andThen_ok, run_underlying hu, if_pos h3, sizeT_run hn, Nat.add_zero]
      · cases hq
    · cases hq
  · cases hq
theorem indexOfV_ok {pc : Pc} (hh : Holds e.int pc) {t : TypeId} {x ix u : V} (hx : V.ok h x) (hq : indexOfV P pc t x ix = .ok u) (w : World) :
    (Instr.index t (x.den e) (ix.den e)).run P w = .ok (u.den e) w ∧ V.ok h u := by
  unfold indexOfV at hq
  split at hq
  · rename_i len elem l hu
    split at hq
    · rename_i n hn
      obtain ⟨kd, a, j, rfl, hj, hlt, hk⟩ := indexV_ok hh hq
      have := partV_ok (e := e) (h := h) (l := l) hx hk w
      refine ⟨?_, this.2⟩
      simp [Instr.index, run_underlying hu, asIntOf, V.den, hj, sizeT_run hn, hlt, this.1]
    · cases hq
  · rename_i l hu
    obtain ⟨kd, a, j, rfl, hj, hlt, hk⟩ := indexV_ok hh hq
    split at hk
    · rename_i c hc
      cases hk
      refine ⟨?_, trivial⟩
      have h0 : (if (0 : Int) ≤ Int.ofNat j then (⟨(l.map UInt8.ofNat).toArray⟩ : ByteArray)[(Int.ofNat j).toNat]? else none) = some (UInt8.ofNat c) := by
        rw [if_pos (by simp)]
        show (⟨(l.map UInt8.ofNat).toArray⟩ : ByteArray)[j]? = _
        have hs : j < (⟨(l.map UInt8.ofNat).toArray⟩ : ByteArray).size := by simpa [ByteArray.size] using hlt
        rw [getElem?_pos (⟨(l.map UInt8.ofNat).toArray⟩ : ByteArray) j hs]
        show some ((l.map UInt8.ofNat).toArray[j]'(by simpa using hlt)) = _
        congr 1
        have : (l[j]'hlt) = c := by rw [List.getElem?_eq_getElem hlt] at hc; simpa using hc
        simp [this]
      simp only [Instr.index, Sem.run_bind, run_underlying hu, asIntOf, V.den, hj, Sem.run_pure, Result.andThen_ok, h0, N.den]
      simp
    · cases hk
  · cases hq
end
end Go.Proofs.Ytnfnhhphoiebbaa.Sx
