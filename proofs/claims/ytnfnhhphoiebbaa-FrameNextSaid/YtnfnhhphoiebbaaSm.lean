/- append, copy. -/
import Derived.Test.YtnfnhhphoiebbaaSl
set_option linter.unusedVariables false
set_option linter.unusedSimpArgs false
namespace Go.Proofs.Ytnfnhhphoiebbaa.Sx
open Go

section
variable {P : Program} {glob : Nat → Option Nat} {e : Env} {S : Nat → Prop} {w0 w : World} {st st' : St} {h : T} {tm : List V} {a : Act}

theorem firstV_length {size n : Nat} {x : V} {m : List V} (hm : firstV st size n x = some m) : m.length = n * size := by
  unfold firstV at hm
  split at hm
  · split at hm
    · rename_i hn; cases hm; have := beq_true hn; subst this; simp
    · cases hm
  · split at hm
    · exact (takeAt_ok hm).1
    · cases hm
  · split at hm
    · exact (takeAt_ok hm).1
    · cases hm
  · rename_i l
    split at hm
    · rename_i hn
      rw [Bool.and_eq_true] at hn
      have h1 := Nat.le_of_ble_eq_true hn.1
      have h2 := beq_true hn.2
      cases hm
      subst h2
      simp; omega
    · cases hm
  · cases hm

theorem growBy_le (n : Nat) : ∀ (rounds c : Nat), Builtin.growBy n rounds c ≤ 2 ^ rounds * (c + 192) := by
  intro rounds
  induction rounds with
  | zero => intro c; simp [Builtin.growBy]
  | succ k ih =>
    intro c
    simp only [Builtin.growBy]
    split
    · rw [Nat.pow_succ]
      have : 1 ≤ 2 ^ k := Nat.one_le_two_pow
      calc c ≤ 1 * (c + 192) := by omega
        _ ≤ 2 ^ k * 2 * (c + 192) := Nat.mul_le_mul_right _ (by omega)
    · refine Nat.le_trans (ih _) ?_
      rw [Nat.pow_succ, Nat.mul_assoc]
      exact Nat.mul_le_mul_left _ (by omega)
theorem nextcap_le (need old : Nat) (h : old < need) (hn : need ≤ 4194304) : Builtin.nextslicecap need old ≤ 134217728 := by
  unfold Builtin.nextslicecap
  split
  · omega
  · split
    · omega
    · have := growBy_le need 4 old
      have e : 2 ^ 4 * (old + 192) = 16 * (old + 192) := rfl
      omega

/-- An append that finds room. -/
theorem run_append_in {ts tx ty el : TypeId} {dx : TypeDesc} {it : TypeInfo} (hts : P.underlying ts = some (.slice el)) (htx : P.underlying tx = some dx) (hx : notIntT dx = true)
    (hi : P.info? el = some it) {base : Option Addr} {len cap n : Nat} {x : Value} {new : Array Value} {w' : World} (hroom : len + n ≤ cap) (hn : (Builtin.lenOf x).run P w = .ok n w) (hf : (Builtin.firstCells it.size n x).run P w = .ok new w)
    (hst : (match base with | some a => storeCells (a.add (len * it.size)) new.toList | none => pure ()).run P w = .ok () w') :
    (Builtin.append_ #[ts, tx] ty #[.slice base len cap, x]).run P w = .ok (.slice base (len + n) cap) w' := by
  cases base with
  | none =>
    simp only [Sem.run_pure, Result.ok.injEq, true_and] at hst
    subst hst
    cases dx <;> first
      | (simp [notIntT] at hx; done)
      | simp only [Builtin.append_, List.getElem?_toArray, List.getElem?_cons_zero, List.getElem?_cons_succ, Sem.run_bind, run_underlying hts, run_underlying htx, Result.andThen_ok, sizeOf, typeInfo, hi, run_program, Sem.run_pure, hn, Bool.false_eq_true, if_false, hroom, if_true, Bool.not_false, hf]
  | some a =>
    simp only at hst
    cases dx <;> first
      | (simp [notIntT] at hx; done)
      | simp only [Builtin.append_, List.getElem?_toArray, List.getElem?_cons_zero, List.getElem?_cons_succ, Sem.run_bind, run_underlying hts, run_underlying htx, Result.andThen_ok, sizeOf, typeInfo, hi, run_program, Sem.run_pure, hn, Bool.false_eq_true, if_false, hroom, if_true, Bool.not_false, hf, hst]

/-- An append that takes a new array. -/
theorem run_append_new {ts tx ty el : TypeId} {dx : TypeDesc} {it : TypeInfo} {z : Value} (hts : P.underlying ts = some (.slice el)) (htx : P.underlying tx = some dx) (hx : notIntT dx = true)
    (hi : P.info? el = some it) (hzero : it.zero = some z) (hb : it.bytes ≤ 65536) {base : Option Addr} {len cap n : Nat} {x : Value} {old new : Array Value} (hroom : cap < len + n) (hmax : len + n ≤ 4194304) (hn : (Builtin.lenOf x).run P w = .ok n w)
    (hf : (Builtin.firstCells it.size n x).run P { w with drawn := w.drawn + 1 } = .ok new { w with drawn := w.drawn + 1 })
    (ho : (Builtin.firstCells it.size len (.slice base len cap)).run P { w with drawn := w.drawn + 1 } = .ok old { w with drawn := w.drawn + 1 }) :
    ∃ c, len + n ≤ c ∧ (Builtin.append_ #[ts, tx] ty #[.slice base len cap, x]).run P w = .ok (.slice (some ⟨w.heap.size, 0, none⟩) (len + n) c)
      { w with drawn := w.drawn + 1, heap := w.heap.push (.cells (old ++ new ++ Builtin.zeroCells z.cells (c - (len + n))) el) } := by
  refine ⟨(Question.appendCap (len + n) cap el).cut (w.tape w.drawn (.appendCap (len + n) cap el)), by simp [Question.cut], ?_⟩
  have h1 : ¬ (len + n ≤ cap) := by omega
  have h2 : ¬ (((len + n : Nat) : Int) > IntKind.i64.max) := by
    have : IntKind.i64.max = 9223372036854775807 := rfl
    omega
  have h3 : ¬ (Builtin.nextslicecap (len + n) cap * it.bytes > 2 ^ 48) := by
    have := Nat.mul_le_mul (nextcap_le (len + n) cap hroom hmax) hb
    omega
  cases dx <;> first
    | (simp [notIntT] at hx; done)
    | simp only [Builtin.append_, List.getElem?_toArray, List.getElem?_cons_zero, List.getElem?_cons_succ, Sem.run_bind, run_underlying hts, run_underlying htx, Result.andThen_ok, sizeOf, typeInfo, hi, run_program, Sem.run_pure, hn, Bool.false_eq_true, if_false, h1, h2, false_and, h3,
    run_choose, Question.forced, run_askRoom, ho, hf, zeroValue, hzero, newRow, run_newObj, Bool.not_false, if_true]

theorem appendTo_ok (r : Rep e S w0 st.hp w) (hh : Holds e.int st.pc) {ts tx ty el : TypeId} {dx : TypeDesc} {it : TypeInfo} {z : V} (hts : P.underlying ts = some (.slice el)) (htx : P.underlying tx = some dx) (hx : notIntT dx = true)
    (hi : P.info? el = some it) (hz : zeroV P el = some z) (hzl : z.cellsOf.length = it.size) (hb : it.bytes ≤ 65536) {n : Nat} {x s : V} {new : List V} (hn : lenOfV x = some n) (hn2 : n ≤ 1048576)
    (hf : firstV st it.size n x = some new) (hlen : new.length = n * it.size) (h1 : new.all V.one = true) {ways : List (V × St)} (hs : V.ok st.hp s) (hq : appendTo st el it.size n new s = some ways) :
    ∃ u st', ways = [(u, st')] ∧ Gives P e S w0 st w (Builtin.append_ #[ts, tx] ty #[s.den e, x.den e]) u st' := by
  have hf' := firstV_ok (P := P) r hf
  have hfd := firstV_ok (P := P) r.drawn hf
  obtain ⟨_, _, iz, zv, hiz, hzv, zden⟩ := zeroV_ok hz
  rw [hi] at hiz
  cases hiz
  have zsize : zv.cells.size = it.size := by
    rw [← zden e, cellsOf_den e (zeroV_any hz)]; simp [denL_length, hzl]
  have zc : ∀ k, (Builtin.zeroCells zv.cells k).size = k * it.size := fun k => by simp [Builtin.zeroCells, zsize]
  -- what stands behind a new array
  have fresh : ∀ {base : Option Addr} {len cap i : Nat} {old : List V} {st' : St}, cap < len + n → len + n ≤ 4194304 → old.length = len * it.size → V.okL st.hp old →
      (Builtin.firstCells it.size len (.slice base len cap)).run P { w with drawn := w.drawn + 1 } = .ok (V.denL e old).toArray { w with drawn := w.drawn + 1 } →
      st.new (.opn (old ++ new) el it.size) = some (i, st') →
      Gives P e S w0 st w (Builtin.append_ #[ts, tx] ty #[.slice base len cap, x.den e]) (.slo i 0 0 (len + n)) st' := by
    intro base len cap i old st' hroom hmax holdl hold ho hnew
    obtain ⟨c, hc, hrun⟩ := run_append_new (P := P) (w := w) (ty := ty) hts htx hx hi hzv hb hroom hmax (lenOfV_ok hn w) hfd.1 ho
    have hok : V.okL st.hp (old ++ new) := okL_iff.2 fun v hv => by
      rcases List.mem_append.1 hv with h1 | h1
      · exact okL_iff.1 hold v h1
      · exact okL_iff.1 hf'.2 v h1
    have hcells : (V.denL e old).toArray ++ (V.denL e new).toArray ++ Builtin.zeroCells zv.cells (c - (len + n)) = (V.denL e (old ++ new) ++ (Builtin.zeroCells zv.cells (c - (len + n))).toList).toArray := by
      apply Array.ext'; simp [denL_append]
    rw [hcells] at hrun
    have := new_ok r hh hnew c (.cells (V.denL e (old ++ new) ++ (Builtin.zeroCells zv.cells (c - (len + n))).toList).toArray el) { w with drawn := w.drawn + 1, heap := w.heap.push (.cells (V.denL e (old ++ new) ++ (Builtin.zeroCells zv.cells (c - (len + n))).toList).toArray el) } rfl rfl rfl rfl
      (fun hg => blk_opn hg hok el it.size _ c _ (by
        simp only [List.length_append, Array.length_toList, zc, holdl, hlen]
        rw [← Nat.add_mul, ← Nat.add_mul]
        congr 1
        omega)) hok
    refine ⟨_, _, ?_, this.1, this.2.1⟩
    rw [hrun]
    simp [V.den, (lay_self e i w.heap.size c).1, (lay_self e i w.heap.size c).2]
  unfold appendTo at hq
  split at hq
  · split at hq
    · rename_i hn0
      have hn0 := beq_true hn0
      subst hn0
      cases hq
      refine ⟨_, _, rfl, e, w, ?_, .refl r hh, trivial⟩
      have := run_append_in (P := P) (ty := ty) hts htx hx hi (base := none) (len := 0) (cap := 0) (Nat.le_refl _) (lenOfV_ok hn w) hf'.1 (w' := w) rfl
      simpa [V.den] using this
    · rename_i hn0
      have hn0 := beq_false hn0
      split at hq
      · rename_i j st1 hnew
        cases hq
        refine ⟨_, _, rfl, ?_⟩
        have := fresh (base := none) (len := 0) (cap := 0) (i := j) (old := []) (st' := st1) (by omega) (by omega) (by simp) trivial (by simp [Builtin.firstCells, V.denL]) (by simpa using hnew)
        simpa [V.den] using this
      · cases hq
  · rename_i b off len cap
    split at hq
    · rename_i hle
      have hle := Nat.le_of_ble_eq_true hle
      split at hq
      · rename_i l t hb'
        split at hq
        · rename_i hfit
          have hfit := Nat.le_of_ble_eq_true hfit
          cases hq
          obtain ⟨w', hrun, haf⟩ := storeCells_ok (P := P) r hh (i := b) (m := new) (off := off + len * it.size) hf'.2 h1 hb' (.inl ⟨l, t, rfl, hfit, rfl⟩)
          refine ⟨_, _, rfl, e, w', ?_, haf, haf.later.has b hs⟩
          exact run_append_in (P := P) (ty := ty) hts htx hx hi (base := some ⟨e.blk b, off, none⟩) hle (lenOfV_ok hn w) hf'.1 (by simpa [addr_add] using hrun)
        · cases hq
      · cases hq
    · rename_i hle
      have hle : cap < len + n := by
        rcases Nat.lt_or_ge cap (len + n) with h | h
        · exact h
        · rw [Nat.ble_eq_true_of_le h] at hle; cases hle
      split at hq
      · rename_i old hold hlen1
        have hlen1 := Nat.le_of_ble_eq_true hlen1
        split at hq
        · rename_i j st1 hnew
          cases hq
          refine ⟨_, _, rfl, ?_⟩
          have ho := firstV_ok (P := P) r.drawn hold
          exact fresh hle (by omega) (firstV_length hold) ho.2 ho.1 hnew
        · cases hq
      · cases hq
  · rename_i b off eoff len
    split at hq
    · rename_i hin
      split at hq
      · rename_i l t z' hb'
        split at hq
        · rename_i hfit
          have hfit := Nat.le_of_ble_eq_true hfit
          cases hq
          have hk : len + n ≤ e.cap b - eoff := by
            split at hin
            · rename_i k hr
              have := (roomV_ok r hr).1
              have := Nat.le_of_ble_eq_true hin
              omega
            · cases hin
          obtain ⟨w', hrun, haf⟩ := storeCells_ok (P := P) r hh (i := b) (m := new) (off := off + len * it.size) hf'.2 h1 hb' (.inr ⟨l, t, z', rfl, hfit, rfl⟩)
          refine ⟨_, _, rfl, e, w', ?_, haf, haf.later.has b hs⟩
          exact run_append_in (P := P) (ty := ty) hts htx hx hi (base := some ⟨e.blk b, off, none⟩) hk (lenOfV_ok hn w) hf'.1 (by simpa [addr_add] using hrun)
        · cases hq
      · cases hq
    split at hq
    · rename_i l t z' hc hb'
      rw [Bool.and_eq_true, Bool.and_eq_true] at hc
      have ho := beq_true hc.1
      have he := beq_true hc.2.1
      have hl1 := Nat.le_of_ble_eq_true hc.2.2
      subst ho
      subst he
      split at hq
      · rename_i hzt
        rw [Bool.and_eq_true] at hzt
        have h2 := beq_true hzt.1
        have h3 := beq_true hzt.2
        subst h2
        subst h3
        split at hq
        · rename_i old hold
          split at hq
          · rename_i j st1 hnew
            cases hq
            refine ⟨_, _, rfl, ?_⟩
            obtain ⟨more, hblk, hcap⟩ := r.blk b _ hb'
            have okl := r.okb b _ hb'
            have holdl := (takeAt_ok hold).1
            have holdok := (takeAt_ok hold).2.2 _ okl
            have hold2 : old = l.take (len * it.size) := by rw [(takeAt_ok hold).2.1]; simp
            have hlenl : len * it.size ≤ l.length := by rw [hold2, List.length_take] at holdl; omega
            have hcells : cellsAt st b = some l := by unfold cellsAt; rw [hb']
            have hok : V.okL st.hp (old ++ new) := okL_iff.2 fun v hv => by
              rcases List.mem_append.1 hv with h1 | h1
              · exact okL_iff.1 holdok v h1
              · exact okL_iff.1 hf'.2 v h1
            obtain ⟨rd, ld⟩ := r.drop hb'
            have hgj := new_get hnew
            have hlim : (st.put b .dead).nxt ≤ 1152921504606846976 ∧ j = (st.put b .dead).nxt ∧ st1 = { (st.put b .dead) with nxt := (st.put b .dead).nxt + 1, hp := T.set 64 (st.put b .dead).hp (st.put b .dead).nxt (.opn (old ++ new) t it.size) } := by
              unfold St.new at hnew
              split at hnew
              · rename_i hl
                split at hnew
                · simp only [Option.some.injEq, Prod.mk.injEq] at hnew
                  exact ⟨Nat.le_of_ble_eq_true hl, hnew.1.symm, hnew.2.symm⟩
                · cases hnew
              · cases hnew
            obtain ⟨hl, rfl, rfl⟩ := hlim
            by_cases hroom : len + n ≤ e.cap b
            · -- there is room: the same block, under its new number
              have hsz : (V.denL e l ++ more).length = e.cap b * it.size := by rw [List.length_append, denL_length]; exact hcap
              have hfit : 0 + len * it.size + (V.denL e new).length ≤ (V.denL e l ++ more).length := by
                rw [hsz, denL_length, hlen, Nat.zero_add, ← Nat.add_mul]
                exact Nat.mul_le_mul_right _ hroom
              have one : ∀ v ∈ V.denL e new, v.oneCell' = true := fun v hv => by
                rw [denL_map] at hv
                obtain ⟨y, hy, rfl⟩ := List.mem_map.1 hv
                exact one_den e (List.all_eq_true.1 h1 y hy)
              have run := run_storeCells_at P (e.blk b) (len * it.size) t (V.denL e new) 0 _ w hblk (by simp only [List.size_toArray]; omega) one
              simp only [Nat.add_zero, List.toList_toArray] at run
              have hold3 : (V.denL e l ++ more).take (len * it.size) = V.denL e old := by
                rw [List.take_append_of_le_length (by rw [denL_length]; exact hlenl), ← denL_take, hold2]
              have hcs : (V.denL e l ++ more).take (len * it.size) ++ V.denL e new ++ (V.denL e l ++ more).drop (len * it.size + (V.denL e new).length) = V.denL e (old ++ new) ++ (V.denL e l ++ more).drop (len * it.size + (V.denL e new).length) := by
                rw [hold3, denL_append]
              rw [hcs] at run
              obtain ⟨z1, z2, z3⟩ := heap_setRow w (e.blk b) _ (V.denL e (old ++ new) ++ (V.denL e l ++ more).drop (len * it.size + (V.denL e new).length)).toArray t hblk
              have gdead : (T.set 64 st.hp b .dead).get b = some .dead := (T.get_set 64 st.hp b .dead (lim64 (r.lim b (by unfold T.has; rw [hb']; simp)))).1
              have gother : ∀ j, j ≠ b → (T.set 64 st.hp b .dead).get j = st.hp.get j := (T.get_set 64 st.hp b .dead (lim64 (r.lim b (by unfold T.has; rw [hb']; simp)))).2
              have hok' : V.okL (st.put b .dead).hp (old ++ new) := V.okL_later ld.has hok
              have tk := rd.taken (i := (st.put b .dead).nxt) (B := e.blk b) hgj hl (.opn (old ++ new) t it.size) (e.cap b)
                (.cells (V.denL e (old ++ new) ++ (V.denL e l ++ more).drop (len * it.size + (V.denL e new).length)).toArray t (0, 0))
                (w.setRow (e.blk b) (V.denL e (old ++ new) ++ (V.denL e l ++ more).drop (len * it.size + (V.denL e new).length)).toArray)
                (fun j d hj hd hbj => by
                  by_cases hjb : j = b
                  · subst hjb; rw [gdead] at hj; cases hj; exact hd
                  · rw [gother j hjb] at hj; exact hjb (r.inj j b _ _ hj hb' hd trivial hbj))
                (Blk.at_lt (r.blk b _ hb') trivial) (r.far b _ hb' trivial) rfl rfl rfl z1 z2 z3
                (blk_opn (st := st.put b .dead) hgj hok' t it.size _ _ _ (by
                  rw [List.length_drop, hsz, List.length_append, holdl, denL_length, hlen, ← Nat.add_mul]
                  have := Nat.mul_le_mul_right it.size hroom
                  omega)) hok'
              refine ⟨_, _, ?_, ⟨ld.trans tk.2, tk.1, hh⟩, ?_⟩
              · have hrun := run_append_in (P := P) (ty := ty) hts htx hx hi (base := some ⟨e.blk b, 0, none⟩) (cap := e.cap b) hroom (lenOfV_ok hn w) hf'.1 (w' := _) (by simpa [addr_add] using run)
                simp only [V.den, Nat.sub_zero, (lay_self e (st.put b .dead).nxt (e.blk b) (e.cap b)).1, (lay_self e (st.put b .dead).nxt (e.blk b) (e.cap b)).2]
                exact hrun
              · show T.has _ _
                unfold T.has
                rw [(T.get_set 64 (st.put b .dead).hp (st.put b .dead).nxt (.opn (old ++ new) t it.size) (lim64 hl)).1]
                simp
            · -- a new block
              have ho := run_loadCells_at (P := P) r.drawn hcells hold
              obtain ⟨c, hc', hrun⟩ := run_append_new (P := P) (w := w) (ty := ty) (base := some ⟨e.blk b, 0, none⟩) (len := len) (cap := e.cap b) (old := (V.denL e old).toArray) hts htx hx hi hzv hb (by omega) (by omega) (lenOfV_ok hn w) hfd.1 (by simpa [Builtin.firstCells] using ho)
              have hcells2 : (V.denL e old).toArray ++ (V.denL e new).toArray ++ Builtin.zeroCells zv.cells (c - (len + n)) = (V.denL e (old ++ new) ++ (Builtin.zeroCells zv.cells (c - (len + n))).toList).toArray := by
                apply Array.ext'; simp [denL_append]
              rw [hcells2] at hrun
              have hok' : V.okL (st.put b .dead).hp (old ++ new) := V.okL_later ld.has hok
              have mk := rd.made (i := (st.put b .dead).nxt) hgj hl (.opn (old ++ new) t it.size) c (.cells (V.denL e (old ++ new) ++ (Builtin.zeroCells zv.cells (c - (len + n))).toList).toArray t (0, 0))
                { w with drawn := w.drawn + 1, heap := w.heap.push (.cells (V.denL e (old ++ new) ++ (Builtin.zeroCells zv.cells (c - (len + n))).toList).toArray t) } rfl rfl rfl rfl
                (blk_opn (st := st.put b .dead) hgj hok' t it.size _ c _ (by
                  simp only [List.length_append, Array.length_toList, zc, holdl, hlen]
                  rw [← Nat.add_mul, ← Nat.add_mul]
                  congr 1
                  omega)) hok'
              refine ⟨_, _, ?_, ⟨ld.trans mk.2, mk.1, hh⟩, ?_⟩
              · simp only [V.den, Nat.sub_zero, (lay_self e (st.put b .dead).nxt w.heap.size c).1, (lay_self e (st.put b .dead).nxt w.heap.size c).2]
                exact hrun
              · show T.has _ _
                unfold T.has
                rw [(T.get_set 64 (st.put b .dead).hp (st.put b .dead).nxt (.opn (old ++ new) t it.size) (lim64 hl)).1]
                simp
          · cases hq
        · cases hq
      · cases hq
    · cases hq
  · cases hq

/-- A row that has grown, sliced from its known end on: it stays, or it moves. -/
theorem sliceEndV_ok (r : Rep e S w0 st.hp w) (hh : Holds e.int st.pc) {t : TypeId} {x : V} {lo hi : Option V} {ways : List (V × St)} (hx : V.ok st.hp x) (hq : sliceEndV P st t x lo hi = some ways) :
    ∃ u st', (u, st') ∈ ways ∧ Gives P e S w0 st w (Instr.sliceAt t (x.den e) (lo.map (V.den e)) (hi.map (V.den e)) none) u st' := by
  unfold sliceEndV at hq
  split at hq
  · rename_i el i off eoff len hu
    split at hq
    · rename_i z hz
      split at hq
      · rename_i k hk
        split at hq
        · rename_i t' h1
          split at hq
          · rename_i b h2
            split at hq
            · rename_i hb
              have hb := beq_true hb
              cases hq
              obtain ⟨hc, ho, hp, _⟩ := roomV_ok r hk
              have hs := sliceBounds_more (P := P) (e := e) hh (isS := true) hc h1 h2 w
              have hbt : b = t' := by omega
              subst hbt
              by_cases hcap : e.cap i - eoff = b
              · refine ⟨_, _, List.mem_cons_self .., e, w, ?_, .refl r hh, hx⟩
                simp only [Instr.sliceAt, Instr.slice, Sem.run_bind, run_underlying hu, Result.andThen_ok, V.den, Sem.run_pure, hs.1, sizeT_run hz, Option.map_some]
                rw [if_pos hcap, hcap, Nat.sub_self]
              · refine ⟨_, _, List.mem_cons_of_mem _ (List.mem_cons_self ..), e, w, ?_, .refl r hh, hx⟩
                simp only [Instr.sliceAt, Instr.slice, Sem.run_bind, run_underlying hu, Result.andThen_ok, V.den, Sem.run_pure, hs.1, sizeT_run hz, Option.map_some, addr_add]
                rw [if_neg hcap, Nat.sub_self]
                congr 2
                omega
            · cases hq
          · cases hq
        · cases hq
      · cases hq
    · cases hq
  · cases hq
end
end Go.Proofs.Ytnfnhhphoiebbaa.Sx
