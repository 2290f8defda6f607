/- Read-only operations, all of them. -/
import Derived.Test.YtnfnhhphoiebbaaSi
set_option linter.unusedVariables false
set_option linter.unusedSimpArgs false
namespace Go.Proofs.Ytnfnhhphoiebbaa.Sx
open Go

section
variable {P : Program} {glob : Nat → Option Nat} {e : Env} {S : Nat → Prop} {w0 w : World} {st : St} {h : T} {tm : List V} {a : Act}

theorem lenOfV_ok {x : V} {n : Nat} (hn : lenOfV x = some n) (w : World) : (Builtin.lenOf (x.den e)).run P w = .ok n w := by
  unfold lenOfV at hn
  split at hn <;> first
    | (cases hn; done)
    | (cases hn; simp [V.den, Builtin.lenOf, ByteArray.size])
theorem firstV_ok (r : Rep e S w0 st.hp w) {size n : Nat} {x : V} {m : List V} (hm : firstV st size n x = some m) :
    (Builtin.firstCells size n (x.den e)).run P w = .ok (V.denL e m).toArray w ∧ V.okL st.hp m := by
  unfold firstV at hm
  split at hm
  · split at hm
    · cases hm; exact ⟨by simp [V.den, Builtin.firstCells, V.denL], trivial⟩
    · cases hm
  · split at hm
    · rename_i l hl
      exact ⟨by simp [V.den, Builtin.firstCells, run_loadCells_at r hl hm], (takeAt_ok hm).2.2 _ (cellsAt_ok r hl).2.1⟩
    · cases hm
  · split at hm
    · rename_i l hl
      exact ⟨by simp [V.den, Builtin.firstCells, run_loadCells_at r hl hm], (takeAt_ok hm).2.2 _ (cellsAt_ok r hl).2.1⟩
    · cases hm
  · rename_i l
    split at hm
    · rename_i hn
      cases hm
      refine ⟨?_, okL_iff.2 fun v hv => ?_⟩
      · simp only [V.den, Builtin.firstCells, Sem.run_pure]
        congr 1
        apply Array.ext'
        simp [denL_map, List.map_take, Function.comp_def, V.den, N.den]
      · obtain ⟨c, _, rfl⟩ := List.mem_map.1 hv; trivial
    · cases hm
  · cases hm
theorem bytesOf_ok {pc : Pc} (hh : Holds e.int pc) : ∀ {l : List V} {m : List Nat}, bytesOf pc l = some m → ∀ (s : ByteArray) (w : World) (f : Value → ByteArray → Sem (ForInStep ByteArray)),
    (∀ n s, f (.int .u8 n) s = pure (.yield (s.push (UInt8.ofNat n.toNat)))) → (forIn (V.denL e l) s f).run P w = .ok ⟨s.data ++ (m.map UInt8.ofNat).toArray⟩ w
  | [], m, h, s, w, f, _ => by
    cases h; simp [V.denL]
  | x :: l, m, h, s, w, f, hf => by
    unfold bytesOf at h
    split at h
    · rename_i heq; cases heq
    · rename_i a l' heq
      cases heq
      split at h
      · rename_i n m' hk hm
        cases h
        have hv := known_ok hh hk
        simp only [V.denL, V.den, hv, List.forIn_cons, hf, pure_bind]
        rw [bytesOf_ok hh hm _ w f hf]
        congr 2
        simp
      · cases h
    · cases h
theorem bytesV_ok (r : Rep e S w0 st.hp w) (hh : Holds e.int st.pc) {s d : TypeId} {x u : V} (hq : bytesV P st s d x = .ok u) : (convert s d (x.den e)).run P w = .ok (u.den e) w ∧ V.ok st.hp u := by
  unfold bytesV at hq
  split at hq
  · rename_i el hs hd
    split at hq
    · rename_i n hu hx hn
      split at hq
      · rename_i l hl
        split at hq
        · rename_i m hm
          cases hq
          refine ⟨?_, trivial⟩
          have hf := firstV_ok (P := P) r hl
          have main : (Conv.bytesToString (x.den e)).run P w = .ok (.string ⟨(m.map UInt8.ofNat).toArray⟩) w := by
            cases x <;> first
              | (simp [isSlc] at hx; done)
              | skip
            · rename_i i off len cap
              simp only [lenOfV, Option.some.injEq] at hn
              subst hn
              have h1 := hf.1
              simp only [V.den, Builtin.firstCells, Nat.mul_one] at h1
              simp only [V.den, Conv.bytesToString, Sem.run_bind, h1, Result.andThen_ok, ← Array.forIn_toList]
              rw [bytesOf_ok (P := P) hh hm ByteArray.empty w _ (fun n s => rfl)]
              simp [ByteArray.empty, ByteArray.emptyWithCapacity]
              try rfl
            · rename_i i off eoff len
              simp only [lenOfV, Option.some.injEq] at hn
              subst hn
              have h1 := hf.1
              simp only [V.den, Builtin.firstCells, Nat.mul_one] at h1
              simp only [V.den, Conv.bytesToString, Sem.run_bind, h1, Result.andThen_ok, ← Array.forIn_toList]
              rw [bytesOf_ok (P := P) hh hm ByteArray.empty w _ (fun n s => rfl)]
              simp [ByteArray.empty, ByteArray.emptyWithCapacity]
              try rfl
            · simp only [lenOfV, Option.some.injEq] at hn
              subst hn
              simp only [firstV, Nat.beq_refl, Option.some.injEq] at hl
              subst hl
              cases hm
              rfl
          unfold convert
          simp only [Sem.run_bind, run_underlying hs, run_underlying hd, Result.andThen_ok]
          cases x <;> first
            | (simp [isSlc] at hx; done)
            | skip
          · simp only [V.den, Sem.run_bind, run_underlying hu, Result.andThen_ok] at main ⊢
            exact main
          · simp only [V.den, Sem.run_bind, run_underlying hu, Result.andThen_ok] at main ⊢
            exact main
          · simp only [V.den, Sem.run_bind, run_underlying hu, Result.andThen_ok] at main ⊢
            exact main
        · cases hq
      · cases hq
    · cases hq
  · cases hq

theorem putAt_length : ∀ (m l : List V) (off : Nat), (putAt l off m).length = l.length
  | [], _, _ => by rw [putAt_nil]
  | v :: m, l, off => by simp only [putAt_cons, tset_eq]; rw [putAt_length m]; simp
theorem putAt_fold (e : Env) : ∀ (m l : List V) (off k : Nat), ((V.denL e m).zipIdx k).foldl (fun (cs : Array Value) (x : Value × Nat) => cs.setIfInBounds (off + x.2) x.1) (V.denL e l).toArray = (V.denL e (putAt l (off + k) m)).toArray
  | [], l, off, k => by rw [putAt_nil]; rfl
  | v :: m, l, off, k => by
    simp only [V.denL, List.zipIdx_cons, List.foldl_cons, putAt_cons, tset_eq]
    have : (V.denL e l).toArray.setIfInBounds (off + k) (v.den e) = (V.denL e (l.set (off + k) v)).toArray := by simp [denL_set]
    rw [this, putAt_fold e m (l.set (off + k) v) off (k + 1)]
    rfl
theorem putAt_ok : ∀ {m l : List V} {off : Nat}, V.okL h l → V.okL h m → V.okL h (putAt l off m)
  | [], _, _, hl, _ => by rw [putAt_nil]; exact hl
  | v :: m, l, off, hl, hm => by
    simp only [putAt_cons, tset_eq]
    refine putAt_ok (okL_iff.2 fun x hx => ?_) hm.2
    rcases List.mem_or_eq_of_mem_set hx with h1 | h1
    · exact okL_iff.1 hl x h1
    · subst h1; exact hm.1
theorem fillV_ok {place : Nat → Option (Nat × Nat)} : ∀ {parts : List (Nat × V)} {l m : List V}, fillV place l parts = some m → V.okL h l → (∀ x ∈ parts, V.ok h x.2) →
    Instr.fill place (V.denL e l).toArray (parts.map fun x => (x.1, x.2.den e)) = some (V.denL e m).toArray ∧ V.okL h m ∧ m.length = l.length
  | [], l, m, hf, hl, _ => by cases hf; exact ⟨rfl, hl, rfl⟩
  | (i, v) :: parts, l, m, hf, hl, hp => by
    simp only [fillV] at hf
    split at hf
    · rename_i off size hpl
      split at hf
      · rename_i hc
        rw [Bool.and_eq_true] at hc
        have h1 := beq_true hc.1
        have h2 := Nat.le_of_ble_eq_true hc.2
        have hv := hp (i, v) (by simp)
        split at hf
        · cases hf
        rename_i hany
        have ih := fillV_ok hf (putAt_ok hl (cellsOf_ok hv)) (fun x hx => hp x (by simp [hx]))
        refine ⟨?_, ih.2.1, by rw [ih.2.2, putAt_length]⟩
        simp only [List.map_cons, Instr.fill, hpl, cellsOf_den e hany]
        have hs : (V.denL e v.cellsOf).toArray.size = size := by simp [denL_length, h1]
        rw [if_neg (by simp [denL_length, h1]; omega)]
        rw [← ih.1]
        congr 1
        have := putAt_fold e v.cellsOf l off 0
        simp only [Nat.add_zero] at this
        rw [← this]
        rw [← Array.foldl_toList, Array.toList_zipIdx]
      · cases hf
    · cases hf
theorem placesOf_ok : ∀ {fs : List Field} {ps : List (Nat × Nat)}, placesOf P fs = some ps → fs.mapM (fun f => (P.info? f.type).map fun i => (f.offset, i.size)) = some ps
  | [], ps, hp => by cases hp; rfl
  | f :: fs, ps, hp => by
    simp only [placesOf] at hp
    split at hp
    · rename_i n m h1 h2
      cases hp
      obtain ⟨i, hi, rfl⟩ := sizeT_info h1
      simp [List.mapM_cons, hi, placesOf_ok h2]
    · cases hp
theorem partsV_ok (t : Tm e h tm a) (g : GOk glob e h) : ∀ {xs : List (Nat × Operand)} {l : List (Nat × V)}, partsV glob tm xs = some l →
    xs.map (fun x => (x.1, a.eval x.2)) = l.map (fun x => (x.1, x.2.den e)) ∧ ∀ x ∈ l, V.ok h x.2
  | [], l, hp => by cases hp; exact ⟨rfl, by simp⟩
  | (i, x) :: xs, l, hp => by
    simp only [partsV] at hp
    split at hp
    · rename_i v m h1 h2
      cases hp
      have a1 := opd_ok t g h1
      have a2 := partsV_ok t g h2
      refine ⟨by simp [a1.1, a2.1], fun y hy => ?_⟩
      rcases List.mem_cons.1 hy with rfl | hy
      · exact a1.2
      · exact a2.2 y hy
    · cases hp
theorem buildV_ok {t : TypeId} {parts : List (Nat × V)} {u : V} (hp : ∀ x ∈ parts, V.ok h x.2) (hq : buildV P t parts = .ok u) (ps : Array (Nat × Value)) (hps : ps.toList = parts.map fun x => (x.1, x.2.den e)) (w : World) :
    (Instr.build t ps).run P w = .ok (u.den e) w ∧ V.ok h u := by
  unfold buildV at hq
  split at hq
  · rename_i z fs hz hu
    split at hq
    · rename_i pl hpl
      split at hq
      · rename_i l hf
        cases hq
        obtain ⟨_, zok, i, zv, hi, hzv, zden⟩ := zeroV_ok hz
        have ff := fillV_ok (e := e) (h := h) hf (cellsOf_ok (zok h)) hp
        refine ⟨?_, ff.2.1⟩
        refine run_build w t ps _ ?_
        unfold Program.built
        simp only [hi, hu, hzv, placesOf_ok hpl, hps]
        rw [← ff.1, ← cellsOf_den e (zeroV_any hz), zden e]
        congr 1
        funext k
        simp
      · cases hq
    · cases hq
  · rename_i z n el hz hu
    split at hq
    · rename_i s hs
      split at hq
      · rename_i l hf
        cases hq
        obtain ⟨_, zok, i, zv, hi, hzv, zden⟩ := zeroV_ok hz
        obtain ⟨ie, hie, rfl⟩ := sizeT_info hs
        have ff := fillV_ok (e := e) (h := h) hf (cellsOf_ok (zok h)) hp
        refine ⟨?_, ff.2.1⟩
        refine run_build w t ps _ ?_
        unfold Program.built
        simp only [hi, hu, hzv, hie, hps]
        rw [← ff.1, ← cellsOf_den e (zeroV_any hz), zden e]
      · cases hq
    · cases hq
  · cases hq

theorem leastV_ok {pc : Pc} (hh : Holds e.int pc) {big : Bool} : ∀ {l : List V} {v u : V}, V.ok h v → V.okL h l → leastV big pc v l = .ok u →
    ((V.denL e l).foldlM (match big with | false => Builtin.min2 | true => Builtin.max2) (v.den e)).run P w = .ok (u.den e) w ∧ V.ok h u
  | [], v, u, hv, _, hq => by cases v <;> cases hq <;> exact ⟨rfl, hv⟩
  | y :: l, v, u, hv, hl, hq => by
    unfold leastV at hq
    split at hq
    · rename_i he; cases he
    · rename_i k a k' b m he
      cases he
      split at hq
      · rename_i hk
        have hk := kindSame_eq hk
        subst hk
        have one : ∀ t, dec pc (overV big a b) = some t → ((match big with | false => Builtin.min2 | true => Builtin.max2) ((V.n k a).den e) ((V.n k b).den e)).run P w = .ok ((V.n k (match t with | true => b | false => a)).den e) w := fun t hd => by
          have hd := dec_tr hh hd
          cases big
          · simp only [overV, mkLt_den, tr_bI] at hd
            simp only [V.den, Builtin.min2, Sem.run_pure]
            cases t
            · rw [ilt_false] at hd; rw [if_neg (by omega)]
            · rw [ilt_iff] at hd; rw [if_pos hd]
          · simp only [overV, mkLt_den, tr_bI] at hd
            simp only [V.den, Builtin.max2, Sem.run_pure]
            cases t
            · rw [ilt_false] at hd; rw [if_neg (by omega)]
            · rw [ilt_iff] at hd; rw [if_pos (by omega)]
        split at hq
        · rename_i hd
          simp only [V.denL, List.foldlM_cons, Sem.run_bind, one true hd, Result.andThen_ok]
          exact leastV_ok hh trivial hl.2 hq
        · rename_i hd
          simp only [V.denL, List.foldlM_cons, Sem.run_bind, one false hd, Result.andThen_ok]
          exact leastV_ok hh trivial hl.2 hq
        · cases hq
      · cases hq
    · cases hq

theorem wantV_ok (t : Tm e h tm a) (hh : Holds e.int st.pc) {ops : Array Oper} {o : Oper} :
    (wantV ops st.pc tm o = .yes → Region.wanted o (yielded ops a.tmps) = true) ∧ (wantV ops st.pc tm o = .nay → Region.wanted o (yielded ops a.tmps) = false) := by
  unfold wantV Region.wanted
  simp only [tat_eq, Array.getElem?_toList]
  cases hg : o.guard with
  | none => exact ⟨fun _ => rfl, fun hq => by cases hq⟩
  | some gw =>
    obtain ⟨j, want⟩ := gw
    simp only
    cases hj : ops[j]? with
    | none => simp [yielded, hj]
    | some p =>
      simp only
      cases hd : p.dst with
      | none => simp [yielded, hj, hd]
      | some d =>
        simp only
        have hy : yielded ops a.tmps j = match (tm[d]?).map (V.den e) with | some (.bool b) => some b | _ => none := by
          simp only [yielded, hj, hd, Option.bind_some, t.tmps, List.getElem?_toArray, denL_get]
          rfl
        cases htm : tm[d]? with
        | none => simp [hy, htm]
        | some v =>
          rw [htm] at hy
          cases v <;> simp only <;> first
            | (simp [hy, V.den, undef]; done)
            | skip
          rename_i x
          simp only [Option.map_some, den_b] at hy
          rw [hy]
          cases hdec : dec st.pc x with
          | none => simp
          | some t' =>
            have := dec_tr hh hdec
            rw [this]
            cases t' <;> cases want <;> simp

theorem optV_ok (t : Tm e st.hp tm a) (g : GOk glob e st.hp) {o : Option Operand} {v : Option V} (ho : optV glob tm o = some v) : o.map a.eval = v.map (V.den e) := by
  cases o with
  | none => simp only [optV, Option.some.injEq] at ho; subst ho; rfl
  | some y =>
    simp only [optV] at ho
    split at ho
    · rename_i y' hy
      cases ho
      simp only [Option.map_some, (opd_ok t g hy).1]
    · cases ho
/-- **What the reader says of a read-only operation is what the model does.** -/
theorem readV_ok (t : Tm e st.hp tm a) (g : GOk glob e st.hp) (r : Rep e S w0 st.hp w) (hh : Holds e.int st.pc) {o : Oper} {u : V} (hq : readV P glob st tm o = .ok u) :
    (execOp a.eval o).run P w = .ok (.value (u.den e)) w ∧ V.ok st.hp u := by
  have one : ∀ {x : Operand} {v : V}, opd glob tm x = some v → a.eval x = v.den e ∧ V.ok st.hp v := fun hx => opd_ok t g hx
  obtain ⟨dst, op, type, pos, after, guard⟩ := o
  cases op <;> simp only [readV] at hq <;> try (cases hq; done)
  case move x =>
    split at hq
    · rename_i v hv; cases hq; exact ⟨by simp [execOp, (one hv).1], (one hv).2⟩
    · cases hq
  case assign x =>
    split at hq
    · rename_i v hv; cases hq; exact ⟨by simp [execOp, (one hv).1], (one hv).2⟩
    · cases hq
  case pick c x y =>
    split at hq
    · rename_i b hb
      have h1 := one hb
      split at hq
      · rename_i hd
        have hd := dec_tr hh hd
        split at hq
        · rename_i v hv
          cases hq
          exact ⟨by simp [execOp, h1.1, den_b, asBool, hd, (one hv).1], (one hv).2⟩
        · cases hq
      · rename_i hd
        have hd := dec_tr hh hd
        split at hq
        · rename_i v hv
          cases hq
          exact ⟨by simp [execOp, h1.1, den_b, asBool, hd, (one hv).1], (one hv).2⟩
        · cases hq
      · cases hq
    · cases hq
  case build ty parts =>
    split at hq
    · rename_i l hl
      have hp := partsV_ok t g hl
      have := buildV_ok (e := e) hp.2 hq (parts.map fun (i, x) => (i, a.eval x)) (by rw [Array.toList_map]; exact hp.1) w
      exact ⟨by simp only [execOp, Sem.run_bind, this.1, Result.andThen_ok, Sem.run_pure], this.2⟩
    · cases hq
  case load ty x =>
    split at hq
    · rename_i v hv
      have := loadV_ok r hh hq
      exact ⟨by simp [execOp, (one hv).1, this.1], this.2⟩
    · cases hq
  case nilCheck x =>
    split at hq
    · rename_i i off hv; cases hq; exact ⟨by simp [execOp, (one hv).1, V.den], (one hv).2⟩
    · rename_i i ix z off hv; cases hq; exact ⟨by simp [execOp, (one hv).1, V.den], (one hv).2⟩
    · rename_i f l m hv; cases hq; exact ⟨by simp [execOp, (one hv).1, V.den], (one hv).2⟩
    · rename_i i hv; cases hq; exact ⟨by simp [execOp, (one hv).1, V.den], (one hv).2⟩
    · rename_i ty v hv; cases hq; exact ⟨by simp [execOp, (one hv).1, V.den], (one hv).2⟩
    · cases hq
  case binOp f ty x y yt =>
    split at hq
    · rename_i v v' hv hv'
      have := binV_ok (P := P) (h := st.hp) hh (one hv).2 (one hv').2 hq w
      refine ⟨?_, this.2⟩
      simp only [execOp, (one hv).1, (one hv').1]
      rw [Sem.run_bind, this.1]; rfl
    · cases hq
  case unOp f ty x =>
    split at hq
    · rename_i v hv
      have := unV_ok (P := P) (e := e) (h := st.hp) hq w
      exact ⟨by simp [execOp, (one hv).1, this.1], this.2⟩
    · cases hq
  case convert s d x =>
    split at hq
    · rename_i v hv
      split at hq
      · have := bytesV_ok (P := P) (w := w) r hh hq
        exact ⟨by simp [execOp, (one hv).1, this.1], this.2⟩
      · have := convV_ok (P := P) (e := e) (h := st.hp) hq w
        exact ⟨by simp [execOp, (one hv).1, this.1], this.2⟩
    · cases hq
  case makeInterface ty x =>
    split at hq
    · cases hq
    · rename_i d v hni hu hv
      cases hq
      refine ⟨?_, (one hv).2⟩
      simp only [execOp, Sem.run_bind, Instr.makeInterface, run_underlying hu, Result.andThen_ok, (one hv).1]
      cases d <;> first
        | rfl
        | exact (hni _ rfl).elim
    · cases hq
  case makeFunc f l m =>
    split at hq
    · rename_i l' m' hl hm
      cases hq
      have a1 := opds_ok t g hl
      have a2 := opds_ok t g hm
      refine ⟨?_, a1.2, a2.2⟩
      have e1 : l.map a.eval = (V.denL e l').toArray := by rw [← a1.1, ← Array.toList_map, Array.toArray_toList]
      have e2 : m.map a.eval = (V.denL e m').toArray := by rw [← a2.1, ← Array.toList_map, Array.toArray_toList]
      simp [execOp, Instr.makeFunc, e1, e2, V.den]
    · cases hq
  case slice ty x lo hi mx =>
    have opt : ∀ {o : Option Operand} {v : Option V}, optV glob tm o = some v → o.map a.eval = v.map (V.den e) := fun {o v} ho => by
      cases o with
      | none => simp only [optV, Option.some.injEq] at ho; subst ho; rfl
      | some y =>
        simp only [optV] at ho
        split at ho
        · rename_i y' hy
          cases ho
          simp only [Option.map_some, (one hy).1]
        · cases ho
    split at hq
    · rename_i v lo' hi' mx' hv hlo hhi hmx
      have fin : ∀ {u : V}, (Instr.sliceAt ty (v.den e) (lo'.map (V.den e)) (hi'.map (V.den e)) (mx'.map (V.den e))).run P w = .ok (u.den e) w →
          (execOp a.eval ⟨dst, .slice ty x lo hi mx, type, pos, after, guard⟩).run P w = .ok (.value (u.den e)) w := fun {u} hr => by
        simp only [execOp, Sem.run_bind, (one hv).1, opt hlo, opt hhi, opt hmx]
        rw [hr]; rfl
      split at hq
      · split at hq
        · have := sliceMoreV_ok (P := P) (w := w) r hh (one hv).2 hq
          exact ⟨fin this.1, this.2⟩
        · have := sliceV_ok (P := P) hh (one hv).2 hq w
          exact ⟨fin this.1, this.2⟩
      · have := sliceMoreV_ok (P := P) (w := w) r hh (one hv).2 hq
        exact ⟨fin this.1, this.2⟩
    · cases hq
  case fieldAddr s x f =>
    split at hq
    · rename_i v hv
      have := fieldAddrV_ok (e := e) (one hv).2 hq w
      exact ⟨by simp [execOp, (one hv).1, this.1], this.2⟩
    · cases hq
  case field s x f =>
    split at hq
    · rename_i v hv
      have := fieldV_ok (e := e) (one hv).2 hq w
      exact ⟨by simp [execOp, (one hv).1, this.1], this.2⟩
    · cases hq
  case indexAddr ty x ix =>
    split at hq
    · rename_i v v' hv hv'
      have := indexAddrV_ok hh (one hv).2 hq w
      exact ⟨by simp [execOp, (one hv).1, (one hv').1, this.1], this.2⟩
    · cases hq
  case index ty x ix =>
    split at hq
    · rename_i v v' hv hv'
      have := indexOfV_ok hh (one hv).2 hq w
      exact ⟨by simp [execOp, (one hv).1, (one hv').1, this.1], this.2⟩
    · cases hq
  case lookup ty m k ok =>
    split at hq
    · rename_i v v' hv hv'
      have := lookupV_ok r hh (one hv').2 hq
      exact ⟨by simp [execOp, (one hv).1, (one hv').1, this.1], this.2⟩
    · cases hq
  case typeAssert x s d ok =>
    split at hq
    · rename_i v hv
      have := assertV_ok (e := e) (s := s) (one hv).2 hq w
      exact ⟨by simp [execOp, (one hv).1, this.1], this.2⟩
    · cases hq
  case extract x i =>
    split at hq
    · rename_i l hl
      split at hq
      · rename_i v hv
        cases hq
        have hl' := one hl
        refine ⟨?_, okL_iff.1 hl'.2 u (List.mem_of_getElem? hv)⟩
        have : (V.denL e l)[i]? = some (u.den e) := by rw [denL_get, hv]; rfl
        simp [execOp, hl'.1, V.den, Instr.extract, this]
      · cases hq
    · cases hq
  case call c =>
    split at hq
    · rename_i hc
      split at hq
      · rename_i x ty hx hty
        split at hq
        · rename_i v hv
          have := lenV_ok (h := st.hp) (ty := type) r hq
          have e1 : c.args = #[x] := by rw [← Array.toArray_toList (xs := c.args), hx]
          have e2 : c.argTypes = #[ty] := by rw [← Array.toArray_toList (xs := c.argTypes), hty]
          refine ⟨?_, this.2⟩
          simp [execOp, resolve, hc, invoke, builtin, e1, e2, (one hv).1, this.1]
        · cases hq
      · cases hq
    · rename_i hc
      split at hq
      · rename_i v l hl
        have a1 := opds_ok t g hl
        have := leastV_ok (P := P) (w := w) hh a1.2.1 a1.2.2 hq
        refine ⟨?_, this.2⟩
        have e1 : c.args.map a.eval = (v.den e :: V.denL e l).toArray := by
          rw [← Array.toArray_toList (xs := c.args.map a.eval), Array.toList_map, a1.1]; rfl
        simp only at this
        simp [execOp, resolve, hc, invoke, builtin, e1, Builtin.min_, this.1]
      · cases hq
    · rename_i hc
      split at hq
      · rename_i v l hl
        have a1 := opds_ok t g hl
        have := leastV_ok (P := P) (w := w) hh a1.2.1 a1.2.2 hq
        refine ⟨?_, this.2⟩
        have e1 : c.args.map a.eval = (v.den e :: V.denL e l).toArray := by
          rw [← Array.toArray_toList (xs := c.args.map a.eval), Array.toList_map, a1.1]; rfl
        simp only at this
        simp [execOp, resolve, hc, invoke, builtin, e1, Builtin.max_, this.1]
      · cases hq
    · cases hq
end
end Go.Proofs.Ytnfnhhphoiebbaa.Sx
