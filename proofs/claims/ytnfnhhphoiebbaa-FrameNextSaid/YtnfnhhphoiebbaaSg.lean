/- Read-only operations: comparisons, arithmetic, parts of values. -/
import Derived.Test.YtnfnhhphoiebbaaSf
set_option linter.unusedVariables false
set_option linter.unusedSimpArgs false
namespace Go.Proofs.Ytnfnhhphoiebbaa.Sx
open Go

theorem ofNat_same (a b : Nat) : (UInt8.ofNat a = UInt8.ofNat b) ↔ a % 256 = b % 256 := by
  constructor
  · intro h
    have := congrArg UInt8.toNat h
    simpa using this
  · intro h
    apply UInt8.toNat_inj.1
    simpa using h
theorem strSame_iff : ∀ {l m : List Nat}, strSame l m = true ↔ l.map UInt8.ofNat = m.map UInt8.ofNat
  | [], [] => by simp [strSame]
  | [], _ :: _ => by simp [strSame]
  | _ :: _, [] => by simp [strSame]
  | a :: l, b :: m => by
    simp only [strSame, Bool.and_eq_true, List.map_cons, List.cons.injEq, ofNat_same, strSame_iff, Nat.beq_eq]
theorem str_beq (l m : List Nat) : ((⟨(l.map UInt8.ofNat).toArray⟩ : ByteArray) == ⟨(m.map UInt8.ofNat).toArray⟩) = strSame l m := by
  show ((l.map UInt8.ofNat).toArray == (m.map UInt8.ofNat).toArray) = strSame l m
  rw [Bool.eq_iff_iff, strSame_iff, beq_iff_eq]
  constructor
  · intro h
    have := congrArg Array.toList h
    simpa using this
  · intro h; rw [h]

section
variable {P : Program} {glob : Nat → Option Nat} {e : Env} {S : Nat → Prop} {w0 w : World} {st : St} {h : T} {tm : List V} {a : Act}

theorem litTruth_dec {pc : Pc} {x : N} {t : Bool} (h : litTruth x = some t) : dec pc x = some t := by
  cases x <;> simp only [litTruth] at h <;> first | exact h | cases h
theorem eqPlain_ok {pc : Pc} (hh : Holds e.int pc) {t : TypeId} {x y u : V} (hq : eqPlain P pc t x y = .ok u) :
    ∃ c, u = .b c ∧ ∀ d w, (Op.equalIn (d + 1) t (x.den e) (y.den e)).run P w = .ok (tr (c.den e.int)) w := by
  unfold eqPlain at hq
  split at hq
  · rename_i k a k' b' hu
    split at hq
    · rename_i hk
      cases hq
      have hk := kindSame_eq hk
      subst hk
      refine ⟨_, rfl, fun d w => ?_⟩
      simp only [Op.equalIn, Sem.run_bind, run_underlying hu, Result.andThen_ok, V.den, if_true, Sem.run_pure, mkEq_den, tr_bI]
      congr 1
      rw [Bool.eq_iff_iff, ieq_iff, beq_iff_eq]
    · cases hq
  · rename_i a b' hu
    have hb : ∀ d w, (Op.equalIn (d + 1) t ((V.b a).den e) ((V.b b').den e)).run P w = .ok (tr (a.den e.int) == tr (b'.den e.int)) w := fun d w => by
      simp only [Op.equalIn, Sem.run_bind, run_underlying hu, Result.andThen_ok, den_b, Sem.run_pure]
    have yesR : ∀ {c : N}, dec pc b' = some true → ∃ c, V.b a = .b c ∧ ∀ d w, (Op.equalIn (d + 1) t ((V.b a).den e) ((V.b b').den e)).run P w = .ok (tr (c.den e.int)) w := fun {_} hd => ⟨_, rfl, fun d w => by rw [hb, dec_tr hh hd]; simp⟩
    have nayR : ∀ {c : N}, dec pc b' = some false → ∃ c, V.b (mkNot a) = .b c ∧ ∀ d w, (Op.equalIn (d + 1) t ((V.b a).den e) ((V.b b').den e)).run P w = .ok (tr (c.den e.int)) w := fun {_} hd => ⟨_, rfl, fun d w => by rw [hb, dec_tr hh hd, mkNot_den, tr_not]; simp⟩
    have yesL : ∀ {c : N}, dec pc a = some true → ∃ c, V.b b' = .b c ∧ ∀ d w, (Op.equalIn (d + 1) t ((V.b a).den e) ((V.b b').den e)).run P w = .ok (tr (c.den e.int)) w := fun {_} hd => ⟨_, rfl, fun d w => by rw [hb, dec_tr hh hd]; simp⟩
    have nayL : ∀ {c : N}, dec pc a = some false → ∃ c, V.b (mkNot b') = .b c ∧ ∀ d w, (Op.equalIn (d + 1) t ((V.b a).den e) ((V.b b').den e)).run P w = .ok (tr (c.den e.int)) w := fun {_} hd => ⟨_, rfl, fun d w => by rw [hb, dec_tr hh hd, mkNot_den, tr_not]; simp⟩
    split at hq
    · rename_i hd; cases hq; exact yesR (c := a) (litTruth_dec hd)
    · rename_i hd; cases hq; exact nayR (c := a) (litTruth_dec hd)
    · split at hq
      · rename_i hd; cases hq; exact yesL (c := a) (litTruth_dec hd)
      · rename_i hd; cases hq; exact nayL (c := a) (litTruth_dec hd)
      · split at hq
        · rename_i hd; cases hq; exact yesL (c := a) hd
        · rename_i hd; cases hq; exact nayL (c := a) hd
        · split at hq
          · rename_i hd; cases hq; exact yesR (c := a) hd
          · rename_i hd; cases hq; exact nayR (c := a) hd
          · cases hq
  · rename_i l m hu
    cases hq
    refine ⟨_, rfl, fun d w => ?_⟩
    simp only [Op.equalIn, Sem.run_bind, run_underlying hu, Result.andThen_ok, V.den, Sem.run_pure, N.den, tr_bI, str_beq]
  all_goals try (
    rename_i hu
    cases hq
    refine ⟨_, rfl, fun d w => ?_⟩
    simp only [Op.equalIn, Sem.run_bind, run_underlying hu, Result.andThen_ok, V.den, Sem.run_pure, N.den]
    rfl)
  · rename_i e' i o j p hu
    split at hq
    · rename_i n hn
      split at hq
      · rename_i hi
        cases hq
        have hi := beq_true hi
        subst hi
        refine ⟨_, rfl, fun d w => ?_⟩
        simp only [Op.equalIn, Sem.run_bind, run_underlying hu, Result.andThen_ok, V.den, sizeT_run hn, N.den, tr_bI]
        simp [sameAddr]
        rw [Bool.eq_iff_iff]; simp
      · cases hq
    · cases hq
  · cases hq

theorem guard_plain (op : BinOp) (t : TypeId) (ox oy : Operand) (x y : Value) (hx : match x, y with | .nilIface, .nilIface => False | .agg _, .agg _ => False | _, _ => True) (w : World) :
    (eqGuard op t ox oy x y).run P w = .ok () w := by
  unfold eqGuard
  cases op <;> first
    | rfl
    | (cases x <;> cases y <;> first | rfl | exact hx.elim)
theorem guard_const (op : BinOp) (t : TypeId) {ox oy : Operand} (hc : (isConstOp ox || isConstOp oy) = true) (w : World) :
    (eqGuard op t ox oy .nilIface .nilIface).run P w = .ok () w := by
  unfold eqGuard
  unfold isConstOp at hc
  cases op <;> first
    | rfl
    | (cases ox <;> cases oy <;> first | rfl | (simp at hc; done))
theorem equal_of {t : TypeId} {x y : Value} {b : Bool} {w : World} (hd : ∀ d, (Op.equalIn (d + 1 + 1) t x y).run P w = .ok b w) : (Op.equal t x y).run P w = .ok b w := hd 9998

theorem mkAnd_tr (e : Nat → Int) (c d : N) : tr ((mkAnd c d).den e) = (tr (c.den e) && tr (d.den e)) := by
  have hite : ∀ x y z : N, tr ((N.ite x y z).den e) = match tr (x.den e) with | true => tr (y.den e) | false => tr (z.den e) := fun x y z => by
    simp only [N.den]
    cases hq : ieq (x.den e) 0
    · have : tr (x.den e) = true := by unfold tr; rw [hq]
      rw [this]
    · have : tr (x.den e) = false := by unfold tr; rw [hq]
      rw [this]
  unfold mkAnd
  split
  · rename_i n
    cases hn : ieq n 0
    · have : tr ((N.lit n).den e) = true := by simp only [N.den, tr, hn]
      rw [this, Bool.and_true]
    · have : tr ((N.lit n).den e) = false := by simp only [N.den, tr, hn]
      rw [this, Bool.and_false]; rfl
  · rw [hite]
    cases tr (c.den e) <;> rfl

/-- One part behind another: as the machine does it. -/
def eqStep (d : Nat) (xs ys : Array Value) (x : TypeId × Nat) : Sem Bool := do
  Op.equalIn d x.1 (← part x.1 xs x.2) (← part x.1 ys x.2)
theorem eqParts_ok {n : Nat} {k : TypeId → V → V → Q} {pc : Pc} (hh : Holds e.int pc)
    (hk : ∀ {t x y u}, V.ok h x → V.ok h y → k t x y = .ok u → ∃ c, u = .b c ∧ ∀ d w, (Op.equalIn (d + n) t (x.den e) (y.den e)).run P w = .ok (tr (c.den e.int)) w) {xs ys : List V} (hx : V.okL h xs) (hy : V.okL h ys) :
    ∀ {l : List (TypeId × Nat)} {u : V}, eqParts P k pc xs ys l = .ok u → ∃ c, u = .b c ∧
      ∀ (d : Nat) (w : World) (f : TypeId × Nat → Option Bool × PUnit → Sem (ForInStep (Option Bool × PUnit))),
        (∀ x s, x ∈ l → f x s = (do if !(← eqStep (d + n) (V.denL e xs).toArray (V.denL e ys).toArray x) then pure (.done (some false, ⟨⟩)) else pure (.yield (none, ⟨⟩)))) →
        (forIn l (none, ⟨⟩) f).run P w = .ok (match tr (c.den e.int) with | true => (none, ⟨⟩) | false => (some false, ⟨⟩)) w
  | [], u, hq => by
    cases hq
    exact ⟨_, rfl, fun d w f _ => rfl⟩
  | (t, off) :: l, u, hq => by
    simp only [eqParts] at hq
    split at hq
    · rename_i a b ha hb
      have pa := fun w => (partV_ok (P := P) (e := e) hx ha w).1
      have pb := fun w => (partV_ok (P := P) (e := e) hy hb w).1
      have oa := (partV_ok (P := P) (e := e) hx ha default).2
      have ob := (partV_ok (P := P) (e := e) hy hb default).2
      split at hq
      · rename_i c0 hc0
        obtain ⟨c, hcc, hrun⟩ := hk oa ob hc0
        cases hcc
        have first : ∀ (d : Nat) (w : World) (f : TypeId × Nat → Option Bool × PUnit → Sem (ForInStep (Option Bool × PUnit))),
            (∀ x s, x ∈ (t, off) :: l → f x s = (do if !(← eqStep (d + n) (V.denL e xs).toArray (V.denL e ys).toArray x) then pure (.done (some false, ⟨⟩)) else pure (.yield (none, ⟨⟩)))) →
            (forIn ((t, off) :: l) (none, ⟨⟩) f).run P w = (match tr (c0.den e.int) with | true => (forIn l (none, ⟨⟩) f).run P w | false => .ok (some false, ⟨⟩) w) := by
          intro d w f hf
          rw [List.forIn_cons, Sem.run_bind, hf _ _ (List.mem_cons_self ..), Sem.run_bind]
          simp only [eqStep, Sem.run_bind, pa, pb, Result.andThen_ok, hrun]
          cases tr (c0.den e.int) <;> simp
        split at hq
        · rename_i hd
          cases hq
          refine ⟨_, rfl, fun d w f hf => ?_⟩
          rw [first d w f hf, dec_tr hh hd]
          rfl
        · rename_i hd
          obtain ⟨c', rfl, ih⟩ := eqParts_ok hh hk hx hy hq
          refine ⟨_, rfl, fun d w f hf => ?_⟩
          rw [first d w f hf, dec_tr hh hd]
          exact ih d w f fun x s hm => hf x s (List.mem_cons_of_mem _ hm)
        · split at hq
          · rename_i d0 hd0
            cases hq
            obtain ⟨c', hc', ih⟩ := eqParts_ok hh hk hx hy hd0
            cases hc'
            refine ⟨_, rfl, fun d w f hf => ?_⟩
            rw [first d w f hf, mkAnd_tr]
            cases tr (c0.den e.int)
            · rfl
            · exact ih d w f fun x s hm => hf x s (List.mem_cons_of_mem _ hm)
          · cases hq
          · cases hq
      · cases hq
      · cases hq
    · cases hq

def gStep (d : Nat) (xs ys : Array Value) (x : TypeId × Nat) (_ : Option Bool × PUnit) : Sem (ForInStep (Option Bool × PUnit)) := do
  if !(← eqStep d xs ys x) then pure (.done (some false, ⟨⟩)) else pure (.yield (none, ⟨⟩))
theorem forIn_structParts {d : Nat} {xs ys : Array Value} {f : Field → Option Bool × PUnit → Sem (ForInStep (Option Bool × PUnit))}
    (hf : ∀ x s, f x s = (if x.name ≠ "_" then gStep d xs ys (x.type, x.offset) s else pure (.yield (none, ⟨⟩)))) :
    ∀ (fs : List Field) (w : World), (forIn fs ((none, ⟨⟩) : Option Bool × PUnit) f).run P w = (forIn (structParts fs) ((none, ⟨⟩) : Option Bool × PUnit) (gStep d xs ys)).run P w
  | [], _ => rfl
  | x :: fs, w => by
    rw [List.forIn_cons, hf]
    simp only [structParts]
    cases hn : (x.name == "_")
    · have hne : x.name ≠ "_" := by simpa using hn
      rw [if_pos hne]
      simp only []
      rw [List.forIn_cons]
      simp only [gStep, Sem.run_bind]
      cases (eqStep d xs ys (x.type, x.offset)).run P w with
      | ok b w' =>
        cases b
        · rfl
        · simp only [Result.andThen_ok, Bool.not_true, Bool.false_eq_true, if_false, Sem.run_pure]
          exact forIn_structParts hf fs w'
      | halt c w' => rfl
    · have he : x.name = "_" := by simpa using hn
      rw [if_neg (by simp [he])]
      simp only [pure_bind]
      exact forIn_structParts hf fs w
theorem forIn_arrayParts {d : Nat} {xs ys : Array Value} {el z : Nat} {f : Nat → Option Bool × PUnit → Sem (ForInStep (Option Bool × PUnit))}
    (hf : ∀ i s, f i s = gStep d xs ys (el, i * z) s) :
    ∀ (n i : Nat) (w : World), (forIn (List.range' i n) ((none, ⟨⟩) : Option Bool × PUnit) f).run P w = (forIn (arrayParts el z n i) ((none, ⟨⟩) : Option Bool × PUnit) (gStep d xs ys)).run P w
  | 0, _, _ => rfl
  | n + 1, i, w => by
    rw [List.range'_succ, List.forIn_cons, hf]
    simp only [arrayParts]
    rw [List.forIn_cons]
    simp only [gStep, Sem.run_bind]
    cases (eqStep d xs ys (el, i * z)).run P w with
    | ok b w' =>
      cases b
      · rfl
      · simp only [Result.andThen_ok, Bool.not_true, Bool.false_eq_true, if_false, Sem.run_pure]
        exact forIn_arrayParts hf n (i + 1) w'
    | halt c w' => rfl
theorem eqZip_eq {k : TypeId → V → V → Q} {pc : Pc} {el z : Nat} (ho : oneCell P el z = true) : ∀ (n i : Nat) (xs ys : List V), eqZip (k el) pc n (xs.drop i) (ys.drop i) = eqParts P k pc xs ys (arrayParts el z n i) := by
  unfold oneCell at ho
  split at ho
  · rename_i ha
    have hz := beq_true ho
    subst hz
    have part : ∀ (l : List V) (i : Nat), partV P el l (i * 1) = match l.drop i with | [] => .no | a :: _ => .ok a := fun l i => by
      unfold partV
      rw [ha, Nat.mul_one]
      simp only [tat_eq]
      by_cases hi : i < l.length
      · rw [List.getElem?_eq_getElem hi, List.drop_eq_getElem_cons hi]
      · rw [List.getElem?_eq_none (by omega), List.drop_eq_nil_of_le (by omega)]
    have tl : ∀ (l : List V) (i : Nat) (a : V) (r : List V), l.drop i = a :: r → l.drop (i + 1) = r := fun l i a r h => by
      rw [← List.drop_drop, h]; rfl
    intro n
    induction n with
    | zero => intro i xs ys; rfl
    | succ n ih =>
      intro i xs ys
      simp only [arrayParts, eqParts, part]
      cases hx : xs.drop i with
      | nil =>
        simp only
        unfold eqZip
        rfl
      | cons a r =>
        cases hy : ys.drop i with
        | nil =>
          simp only
          unfold eqZip
          rfl
        | cons b q =>
          simp only [eqZip]
          rw [← tl xs i a r hx, ← tl ys i b q hy, ih (i + 1) xs ys]
  · cases ho
theorem eqDeep_ok {pc : Pc} (hh : Holds e.int pc) : ∀ {n : Nat} {t : TypeId} {x y u : V}, V.ok h x → V.ok h y → eqDeep P n pc t x y = .ok u →
    ∃ c, u = .b c ∧ ∀ d w, (Op.equalIn (d + n) t (x.den e) (y.den e)).run P w = .ok (tr (c.den e.int)) w
  | 0, _, _, _, _, _, _, hq => by cases hq
  | n + 1, t, x, y, u, hx, hy, hq => by
    simp only [eqDeep] at hq
    split at hq
    · rename_i fs xs ys hu
      split at hq
      · cases hq
      · rename_i hs
        obtain ⟨c, rfl, hrun⟩ := eqParts_ok (P := P) (h := h) (n := n) hh (fun {t x y u} hx hy hk => eqDeep_ok hh hx hy hk) (by simpa [V.ok] using hx) (by simpa [V.ok] using hy) hq
        refine ⟨c, rfl, fun d w => ?_⟩
        rw [← Nat.add_assoc, Op.equalIn]
        simp only [Sem.run_bind, run_underlying hu, Result.andThen_ok, run_program, hs, Bool.false_eq_true, if_false, V.den]
        rw [← Array.forIn_toList, forIn_structParts (d := d + n) (xs := (V.denL e xs).toArray) (ys := (V.denL e ys).toArray) (fun x s => ?_) fs.toList w, hrun d w (gStep (d + n) (V.denL e xs).toArray (V.denL e ys).toArray) (fun x s _ => rfl)]
        · cases tr (c.den e.int) <;> rfl
        · simp only [gStep, eqStep, bind_assoc]
    · rename_i len el xs ys hu
      split at hq
      · rename_i z hz
        have hq : eqParts P (eqDeep P n pc) pc xs ys (arrayParts el z len 0) = .ok u := by
          split at hq
          · rename_i ho
            have := eqZip_eq (P := P) (k := eqDeep P n pc) (pc := pc) ho len 0 xs ys
            rw [List.drop_zero, List.drop_zero] at this
            rw [← this]; exact hq
          · exact hq
        obtain ⟨c, rfl, hrun⟩ := eqParts_ok (P := P) (h := h) (n := n) hh (fun {t x y u} hx hy hk => eqDeep_ok hh hx hy hk) (by simpa [V.ok] using hx) (by simpa [V.ok] using hy) hq
        refine ⟨c, rfl, fun d w => ?_⟩
        rw [← Nat.add_assoc, Op.equalIn]
        simp only [Sem.run_bind, run_underlying hu, Result.andThen_ok, sizeT_run hz, V.den]
        rw [Std.Legacy.Range.forIn_eq_forIn_range']
        simp only [Std.Legacy.Range.size]
        have hlen : (len - 0 + 1 - 1) / 1 = len := by simp
        simp only [hlen]
        rw [forIn_arrayParts (d := d + n) (xs := (V.denL e xs).toArray) (ys := (V.denL e ys).toArray) (el := el) (z := z) (fun i s => ?_) len 0 w, hrun d w (gStep (d + n) (V.denL e xs).toArray (V.denL e ys).toArray) (fun x s _ => rfl)]
        · cases tr (c.den e.int) <;> rfl
        · simp only [gStep, eqStep, bind_assoc]
      · cases hq
    · obtain ⟨c, hc, hrun⟩ := eqPlain_ok hh hq
      exact ⟨c, hc, fun d w => by rw [← Nat.add_assoc]; exact hrun (d + n) w⟩

theorem guard_agg (op : BinOp) {t : TypeId} (ox oy : Operand) (xs ys : Array Value) (hg : P.eqGuardType P.depth t = false) (w : World) :
    (eqGuard op t ox oy (.agg xs) (.agg ys)).run P w = .ok () w := by
  unfold eqGuard
  cases op <;> first
    | rfl
    | simp [Sem.run_bind, run_program, hg]
theorem eqV_ok {pc : Pc} (hh : Holds e.int pc) {t : TypeId} {ox oy : Operand} {x y u : V} (hx : V.ok h x) (hy : V.ok h y) (hq : eqV P pc t ox oy x y = .ok u) :
    ∃ c, u = .b c ∧ ∀ w, (Op.equal t (x.den e) (y.den e)).run P w = .ok (tr (c.den e.int)) w ∧
      ∀ op, (eqGuard op t ox oy (x.den e) (y.den e)).run P w = .ok () w := by
  unfold eqV at hq
  split at hq
  · rename_i ms hu
    split at hq
    · rename_i hc
      cases hq
      refine ⟨_, rfl, fun w => ⟨equal_of fun d => ?_, fun op => guard_const op t hc w⟩⟩
      simp only [Op.equalIn, Sem.run_bind, run_underlying hu, Result.andThen_ok, V.den, Sem.run_pure, N.den]
      rfl
    · cases hq
  · rename_i ms t' v hu
    cases hq
    refine ⟨_, rfl, fun w => ⟨equal_of fun d => ?_, fun op => guard_plain op t ox oy _ _ trivial w⟩⟩
    simp only [Op.equalIn, Sem.run_bind, run_underlying hu, Result.andThen_ok, V.den, Sem.run_pure, N.den]
    rfl
  · rename_i ms t' v hu
    cases hq
    refine ⟨_, rfl, fun w => ⟨equal_of fun d => ?_, fun op => guard_plain op t ox oy _ _ trivial w⟩⟩
    simp only [Op.equalIn, Sem.run_bind, run_underlying hu, Result.andThen_ok, V.den, Sem.run_pure, N.den]
    rfl
  · rename_i ms t' v t'' v' hu
    split at hq
    · rename_i hne
      cases hq
      refine ⟨_, rfl, fun w => ⟨equal_of fun d => ?_, fun op => guard_plain op t ox oy _ _ trivial w⟩⟩
      simp only [Op.equalIn, Sem.run_bind, run_underlying hu, Result.andThen_ok, V.den, N.den]
      rw [if_pos (beq_false hne)]
      rfl
    · rename_i heq
      have heq := beq_true heq
      subst heq
      split at hq
      · rename_i i hi
        split at hq
        · rename_i hc
          obtain ⟨c, hc1, hc2⟩ := eqPlain_ok hh hq
          refine ⟨c, hc1, fun w => ⟨equal_of fun d => ?_, fun op => guard_plain op t ox oy _ _ trivial w⟩⟩
          rw [Op.equalIn]
          simp only [Sem.run_bind, run_underlying hu, Result.andThen_ok, V.den]
          simp only [ne_eq, not_true_eq_false, if_false, Sem.run_bind, typeInfo, run_program, Result.andThen_ok, hi, Sem.run_pure, hc, Bool.not_true, Bool.false_eq_true]
          exact hc2 d w
        · cases hq
      · cases hq
  · rename_i xs ys _
    split at hq
    · cases hq
    · rename_i hg
      obtain ⟨c, rfl, hrun⟩ := eqDeep_ok (P := P) (h := h) hh hx hy hq
      refine ⟨c, rfl, fun w => ⟨hrun 9996 w, fun op => ?_⟩⟩
      simp only [V.den]
      exact guard_agg op ox oy _ _ hg w
  · obtain ⟨c, hc1, hc2⟩ := eqPlain_ok hh hq
    refine ⟨c, hc1, fun w => ⟨equal_of fun d => hc2 (d + 1) w, fun op => guard_plain op t ox oy _ _ ?_ w⟩⟩
    unfold eqPlain at hq
    split at hq <;> first | exact trivial | (cases hq; done)
end
end Go.Proofs.Ytnfnhhphoiebbaa.Sx
