/- Operations that make memory; maps; append, copy. -/
import Derived.Test.YtnfnhhphoiebbaaSk
set_option linter.unusedVariables false
set_option linter.unusedSimpArgs false
namespace Go.Proofs.Ytnfnhhphoiebbaa.Sx
open Go

section
variable {P : Program} {glob : Nat → Option Nat} {e : Env} {S : Nat → Prop} {w0 w : World} {st st' : St} {h : T} {tm : List V} {a : Act}

/-- One way: a value, and what it leaves. -/
def Gives (P : Program) (e : Env) (S : Nat → Prop) (w0 : World) (st : St) (w : World) (s : Sem Value) (u : V) (st' : St) : Prop :=
  ∃ e' w', s.run P w = .ok (u.den e') w' ∧ After e S w0 st e' st' w' ∧ V.ok st'.hp u

theorem newVar_ok (r : Rep e S w0 st.hp w) (hh : Holds e.int st.pc) {l : List V} {t : TypeId} {i : Nat} (hl : V.okL st.hp l) (hn : st.new (.cells l t) = some (i, st')) (v : Value) (hv : v.cells = (V.denL e l).toArray) :
    Gives P e S w0 st w (do pure (.pointer (some (← newVar t v)))) (.ptr i 0) st' := by
  have := new_ok r hh hn 0 (.cells (V.denL e l).toArray t) { w with heap := w.heap.push (.cells (V.denL e l).toArray t) } rfl rfl rfl rfl (fun hi => blk_cells hi hl t _ _) hl
  refine ⟨_, _, ?_, this.1, this.2.1⟩
  simp [newVar, newRow, hv, V.den, (lay_self e i w.heap.size 0).1]

theorem newRow_ok (r : Rep e S w0 st.hp w) (hh : Holds e.int st.pc) {l : List V} {t : TypeId} {i len cap : Nat} (hl : V.okL st.hp l) (hn : st.new (.cells l t) = some (i, st')) :
    Gives P e S w0 st w (do pure (.slice (some (← newRow t (V.denL e l).toArray)) len cap)) (.slc i 0 len cap) st' := by
  have := new_ok r hh hn 0 (.cells (V.denL e l).toArray t) { w with heap := w.heap.push (.cells (V.denL e l).toArray t) } rfl rfl rfl rfl (fun hi => blk_cells hi hl t _ _) hl
  refine ⟨_, _, ?_, this.1, this.2.1⟩
  simp [newRow, V.den, (lay_self e i w.heap.size 0).1]

theorem alloc_ok (r : Rep e S w0 st.hp w) (hh : Holds e.int st.pc) {t : TypeId} {z : V} {i : Nat} (hz : zeroV P t = some z) (hn : st.new (.cells z.cellsOf t) = some (i, st')) :
    Gives P e S w0 st w (Instr.alloc t true (.tuple #[])) (.ptr i 0) st' := by
  have zz := zeroV_ok hz
  obtain ⟨e', w', h1, h2⟩ := newVar_ok (P := P) r hh (cellsOf_ok (zz.2.1 _)) hn (z.den e) (cellsOf_den e (zeroV_any hz))
  refine ⟨e', w', ?_, h2⟩
  simp only [Instr.alloc, Sem.run_bind, zz.1 e w, Result.andThen_ok]
  rw [← h1]
  simp
theorem box_ok (r : Rep e S w0 st.hp w) (hh : Holds e.int st.pc) {t : TypeId} {v : V} {i : Nat} (hv : V.ok st.hp v) (hany : v.isAny = false) (hn : st.new (.cells v.cellsOf t) = some (i, st')) :
    Gives P e S w0 st w (Instr.box t (v.den e)) (.ptr i 0) st' := newVar_ok r hh (cellsOf_ok hv) hn (v.den e) (cellsOf_den e hany)

theorem zeros_den (e : Env) (n z : Nat) (v : V) (hany : v.isAny = false) (hz : v.cellsOf.length = z) :
    ((Array.range (n * z)).map fun i => (if n * z = 0 then (#[] : Array Value) else (v.den e).cells)[i % (if n * z = 0 then (#[] : Array Value) else (v.den e).cells).size]!) = (V.denL e (rep n v.cellsOf)).toArray := by
  subst hz
  by_cases h0 : n * v.cellsOf.length = 0
  · have : rep n v.cellsOf = [] := List.eq_nil_of_length_eq_zero (by rw [rep_length, h0])
    rw [h0, this]; simp [V.denL]
  · rw [if_neg h0, cellsOf_den e hany]
    exact rep_den e n v.cellsOf

theorem fillSeq_ok {z : Nat} {c : List V} (hc : c.length = z) : ∀ (n j : Nat) (l : List (Nat × V)) (pre m : List V), fillSeq z n j l = some m → pre.length = j * z → fillV (fun i => some (i * z, z)) (pre ++ rep n c) l = some (pre ++ m)
  | 0, j, [], pre, m, h, _ => by
    simp only [fillSeq, Option.some.injEq] at h
    subst h; rfl
  | 0, j, _ :: _, pre, m, h, _ => by simp [fillSeq] at h
  | n + 1, j, [], pre, m, h, _ => by simp [fillSeq] at h
  | n + 1, j, (i, v) :: rest, pre, m, h, hp => by
    simp only [fillSeq] at h
    split at h
    · rename_i hq
      rw [Bool.and_eq_true] at hq
      have hi := beq_true hq.1
      have hz := beq_true hq.2
      split at h
      · cases h
      · rename_i hany
        split at h
        · rename_i m' hm'
          cases h
          subst hi
          have ih := fillSeq_ok hc n (i + 1) rest (pre ++ v.cellsOf) m' hm' (by rw [List.length_append, hp, hz, Nat.succ_mul])
          have hput : putAt (pre ++ rep (n + 1) c) (i * z) v.cellsOf = pre ++ v.cellsOf ++ rep n c := by
            have hr : rep (n + 1) c = c ++ rep n c := rfl
            rw [putAt_eq _ _ _ (by rw [hr, List.length_append, List.length_append, hp, hz, hc]; omega), hr, ← hp, List.take_left, hz]
            congr 1
            rw [← List.append_assoc, List.drop_left' (by rw [List.length_append, hc])]
          simp only [fillV]
          rw [hput, hany]
          have hle : Nat.ble (i * z + z) (pre ++ rep (n + 1) c).length = true := Nat.ble_eq_true_of_le (by
            have hr : rep (n + 1) c = c ++ rep n c := rfl
            rw [hr, List.length_append, List.length_append, hp, hc]; omega)
          rw [hle, show Nat.beq v.cellsOf.length z = true from hq.2]
          simp only [Bool.and_self]
          rw [ih, List.append_assoc]
        · cases h
    · cases h
theorem fillR_ok {len z : Nat} {c : List V} (hc : c.length = z) {l : List (Nat × V)} {m : List V} (h : fillR len z c l = some m) : fillV (fun i => some (i * z, z)) (rep len c) l = some m := by
  unfold fillR at h
  split at h
  · rename_i m' hm'
    cases h
    have := fillSeq_ok hc len 0 l [] m hm' (by simp)
    simpa using this
  · exact h
theorem buildSlice_ok (r : Rep e S w0 st.hp w) (hh : Holds e.int st.pc) {t el : TypeId} {len z i : Nat} {v : V} {parts : List (Nat × V)} {cs : List V} (hu : P.underlying t = some (.slice el)) (hs : sizeT P el = some z) (hz : zeroV P el = some v)
    (hlen : v.cellsOf.length = z) (hmax : len * z ≤ 65536) (hp : ∀ x ∈ parts, V.ok st.hp x.2) (hf : fillV (fun i => some (i * z, z)) (rep len v.cellsOf) parts = some cs) (hn : st.new (.cells cs el) = some (i, st'))
    (ps : Array (Nat × Value)) (hps : ps.toList = parts.map fun x => (x.1, x.2.den e)) : Gives P e S w0 st w (Instr.buildSlice t len ps) (.slc i 0 len len) st' := by
  have zz := zeroV_ok hz
  have ff := fillV_ok (e := e) (h := st.hp) hf (rep_ok (cellsOf_ok (zz.2.1 _))) hp
  obtain ⟨e', w', h1, h2⟩ := newRow_ok (P := P) (len := len) (cap := len) r hh ff.2.1 hn
  refine ⟨e', w', ?_, h2⟩
  have zd := zeros_den e len z v (zeroV_any hz) hlen
  simp only [Instr.buildSlice, Sem.run_bind, run_underlying hu, Result.andThen_ok, sizeT_run hs]
  rw [if_neg (by omega)]
  by_cases h0 : len * z = 0
  · simp only [h0, if_true] at zd
    simp only [h0, if_true, Sem.run_bind, Sem.run_pure, Result.andThen_ok]
    rw [zd, hps, ff.1, ← h1]
  · simp only [h0, if_false] at zd
    simp only [h0, if_false, Sem.run_bind, Sem.run_pure, Result.andThen_ok, zz.1 e w]
    rw [zd, hps, ff.1, ← h1]
theorem natOf_ok {pc : Pc} (hh : Holds e.int pc) {v : V} {n : Nat} (hn : natOf pc v = some n) : v.den e = .int .i64 (n : Int) := by
  unfold natOf at hn
  split at hn
  · split at hn
    · rename_i m hk
      cases hn
      simp only [V.den, known_ok hh hk]; rfl
    · cases hn
  · cases hn
theorem wrap_small {n : Nat} (hn : n ≤ 1048576) : IntKind.i64.wrap (n : Int) = n := by
  rw [← wrapF_eq, ofLow_same .i64 (by unfold kLo kHi isSigned span; constructor <;> simp <;> omega)]
theorem makeSlice_ok (r : Rep e S w0 st.hp w) (hh : Holds e.int st.pc) {t el : TypeId} {len cap i : Nat} {it : TypeInfo} {v x y : V} (hu : P.underlying t = some (.slice el)) (hi : P.info? el = some it) (hz : zeroV P el = some v)
    (hlen : v.cellsOf.length = it.size) (h1 : len ≤ cap) (h2 : cap ≤ 1048576) (h3 : it.bytes ≤ 65536) (hx : natOf st.pc x = some len) (hy : natOf st.pc y = some cap) (hn : st.new (.cells (rep cap v.cellsOf) el) = some (i, st')) :
    Gives P e S w0 st w (Instr.makeSlice t (x.den e) (y.den e)) (.slc i 0 len cap) st' := by
  have zz := zeroV_ok hz
  obtain ⟨e', w', k1, k2⟩ := newRow_ok (P := P) (len := len) (cap := cap) r hh (rep_ok (cellsOf_ok (zz.2.1 _))) hn
  refine ⟨e', w', ?_, k2⟩
  have zd := zeros_den e cap it.size v (zeroV_any hz) hlen
  have hti : (typeInfo el).run P w = .ok it w := by simp [typeInfo, hi]
  have hsz : (sizeOf el).run P w = .ok it.size w := by simp [sizeOf, typeInfo, hi]
  have hb : it.bytes * cap ≤ 65536 * 1048576 := Nat.mul_le_mul h3 h2
  have hb' : ((it.bytes * cap : Nat) : Int) ≤ 68719476736 := by omega
  rw [Int.natCast_mul] at hb'
  simp only [Instr.makeSlice, natOf_ok hh hx, natOf_ok hh hy, Sem.run_bind, run_underlying hu, Result.andThen_ok, asInt, asIntOf, Sem.run_pure, hti, wrap_small h2, wrap_small (Nat.le_trans h1 h2)]
  rw [if_neg ?_]
  · simp only [Sem.run_bind, run_askRoom, Result.andThen_ok, Int.toNat_natCast, hsz, Sem.run_pure]
    by_cases h0 : cap * it.size = 0
    · simp only [h0, if_true] at zd
      simp only [h0, if_true, Sem.run_bind, Sem.run_pure, Result.andThen_ok]
      rw [zd, ← k1]
      simp
    · simp only [h0, if_false] at zd
      simp only [h0, if_false, Sem.run_bind, Sem.run_pure, Result.andThen_ok, zz.1 e w]
      rw [zd, ← k1]
      simp
  · simp only [Bool.or_eq_true, decide_eq_true_eq, not_or]
    omega
theorem makeMap_ok (r : Rep e S w0 st.hp w) (hh : Holds e.int st.pc) {t : TypeId} {i : Nat} (hn : st.new (.mp [] 0) = some (i, st')) :
    Gives P e S w0 st w (Instr.makeMap t none) (.map i) st' := by
  have := new_ok r hh hn 0 (.map #[] 0) { w with heap := w.heap.push (.map #[] 0) } rfl rfl rfl rfl (fun hi => by simp [Blk.at]) (by simp [Blk.ok])
  refine ⟨_, _, ?_, this.1, this.2.1⟩
  simp [Instr.makeMap, V.den, (lay_self e i w.heap.size 0).1]

/-! Maps -/
theorem setEntry_map (e : Env) (v : V) : ∀ (es : List (V × V × Nat)) (j : Nat), (setEntry v es j).map (fun (k, v, n) => (⟨k.den e, v.den e, n⟩ : MapEntry)) = (es.map (fun (k, v, n) => (⟨k.den e, v.den e, n⟩ : MapEntry))).modify j fun x => { x with val := v.den e }
  | [], j => by simp [setEntry]
  | (k, u, n) :: es, 0 => by simp [setEntry]
  | x :: es, j + 1 => by simp [setEntry, setEntry_map e v es j]
theorem setEntry_ok {v : V} (hv : V.ok h v) : ∀ {es : List (V × V × Nat)} {j : Nat}, (∀ x ∈ es, V.ok h x.1 ∧ V.ok h x.2.1) → ∀ x ∈ setEntry v es j, V.ok h x.1 ∧ V.ok h x.2.1
  | [], _, _, x, hx => by simp [setEntry] at hx
  | (k, u, n) :: es, 0, hes, x, hx => by
    rcases List.mem_cons.1 hx with rfl | hx
    · exact ⟨(hes (k, u, n) (by simp)).1, hv⟩
    · exact hes x (by simp [hx])
  | y :: es, j + 1, hes, x, hx => by
    rcases List.mem_cons.1 hx with rfl | hx
    · exact hes y (by simp)
    · exact setEntry_ok hv (fun z hz => hes z (by simp [hz])) x hx
theorem run_setObj_of {i : Nat} {es fs : Array MapEntry} {c d : Nat} (hm : w.heap[i]? = some (.map es c)) : (setObj i (.map fs d)).run P w = .ok () { w with heap := w.heap.setIfInBounds i (.map fs d) } := by
  simp [setObj, Sem.run, hm]
theorem map_turn (r : Rep e S w0 st.hp w) (hh : Holds e.int st.pc) {i : Nat} {es fs : List (V × V × Nat)} {c d : Nat} (hm : st.hp.get i = some (.mp es c)) (hfs : ∀ x ∈ fs, V.ok st.hp x.1 ∧ V.ok st.hp x.2.1) :
    After e S w0 st e (st.put i (.mp fs d)) { w with heap := w.heap.setIfInBounds (e.blk i) (.map (fs.map fun (k, v, n) => (⟨k.den e, v.den e, n⟩ : MapEntry)).toArray d) } := by
  have hlt := Blk.at_lt (r.blk i _ hm) trivial
  have := r.turn (b' := .mp fs d) hm trivial trivial (.map (fs.map fun (k, v, n) => (⟨k.den e, v.den e, n⟩ : MapEntry)).toArray d) (by simp only [Blk.at]) hfs { w with heap := w.heap.setIfInBounds (e.blk i) (.map (fs.map fun (k, v, n) => (⟨k.den e, v.den e, n⟩ : MapEntry)).toArray d) } rfl rfl rfl
    (by simp) (by simp [hlt]) (fun k hk => by simp [Array.getElem?_setIfInBounds_ne (Ne.symm hk)])
  exact ⟨this.2, this.1, hh⟩
theorem litKey_bits {k : V} (hk : litKey k = true) : Instr.sameBits 10000 (k.den e) (k.den e) = true := by
  unfold litKey at hk
  split at hk
  · simp [V.den, Instr.sameBits]
  · simp only [V.den, Instr.sameBits]
    show (ByteArray.data _ == ByteArray.data _) = true
    simp
  · rename_i l
    have key : ∀ l : List V, l.all litNum = true → ((V.denL e l).zip (V.denL e l)).all (fun (x, y) => Instr.sameBits 9999 x y) = true := by
      intro l
      induction l with
      | nil => intro _; rfl
      | cons v l ih =>
        intro h
        rw [List.all_cons, Bool.and_eq_true] at h
        simp only [V.denL, List.zip_cons_cons, List.all_cons, Bool.and_eq_true]
        refine ⟨?_, ih h.2⟩
        have h1 := h.1
        unfold litNum at h1
        split at h1
        · simp [V.den, Instr.sameBits]
        · cases h1
    simp only [V.den]
    unfold Instr.sameBits
    simp only [beq_self_eq_true, Bool.true_and]
    exact key l hk
  · cases hk
theorem mapPutV_ok (r : Rep e S w0 st.hp w) (hh : Holds e.int st.pc) {t : TypeId} {m k v : V} {ways : List (V × St)} (hk0 : V.ok st.hp k) (hv0 : V.ok st.hp v) (hq : mapPutV P st t m k v = .inl (some ways)) :
    ∃ st' w', ways = [(.und, st')] ∧ (Instr.mapUpdate t (m.den e) (k.den e) (v.den e)).run P w = .ok () w' ∧ After e S w0 st e st' w' := by
  unfold mapPutV at hq
  split at hq
  · rename_i kt et i hu
    split at hq
    · rename_i hk
      split at hq
      · rename_i es c hm
        have hmo := map_ok r hm
        have fo := findK_ok (P := P) (h := st.hp) (e := e) hh hk hk0 hmo.2.1
        split at hq
        · rename_i j v' hf
          obtain ⟨⟨kv, n, hg⟩, hnow⟩ := fo.1 j v' hf
          have main : ∀ (hsame : kv = k) (_ : litKey k = true), ∃ w', (Instr.mapUpdate t ((V.map i).den e) (k.den e) (v.den e)).run P w = .ok () w' ∧ After e S w0 st e (st.put i (.mp (setEntry v es j) c)) w' := by
            intro hsame hform
            subst hsame
            have turn := map_turn (fs := setEntry v es j) (d := c) r hh hm (setEntry_ok hv0 hmo.2.1)
            refine ⟨_, ?_, turn⟩
            have hbits : Instr.sameBits 10000 (kv.den e) (kv.den e) = true := litKey_bits hform
            have hkey : (((es.map fun (k, v, n) => (⟨k.den e, v.den e, n⟩ : MapEntry)).toArray[j]?).map (·.key)).getD (kv.den e) = kv.den e := by
              simp [hg]
            have hkeep : (Instr.keyThatStays (kv.den e) (kv.den e)).run P w = .ok (kv.den e) w := by
              unfold Instr.keyThatStays; rw [hbits]; rfl
            simp only [Instr.mapUpdate, Sem.run_bind, run_underlying hu, Result.andThen_ok, V.den, run_getObj_of hmo.1, checkKey_ok hk hk0, hnow w, hkey, hkeep]
            rw [run_setObj_of hmo.1, setEntry_map]
            congr 3
            apply congrArg (fun x => Obj.map x c)
            apply Array.ext'
            simp only [Array.toList_modify]
            apply List.ext_getElem?
            intro q
            simp only [List.getElem?_modify, List.getElem?_map]
            by_cases hjq : j = q
            · subst hjq
              simp [hg]
            · simp [hjq]
          split at hq
          · rename_i hform
            split at hq
            · rename_i k' v'' n' hg'
              split at hq
              · rename_i hs
                cases hq
                rw [hg] at hg'
                cases hg'
                obtain ⟨w', h1, h2⟩ := main (V.same_eq hs) hform
                exact ⟨_, w', rfl, h1, h2⟩
              · cases hq
            · cases hq
          · cases hq
        · rename_i hf
          cases hq
          have hnow := fo.2 hf
          have turn := map_turn (fs := es ++ [(k, v, c)]) (d := c + 1) r hh hm (fun x hx => by
            rcases List.mem_append.1 hx with h1 | h1
            · exact hmo.2.1 x h1
            · simp at h1; subst h1; exact ⟨hk0, hv0⟩)
          refine ⟨_, _, rfl, ?_, turn⟩
          simp only [Instr.mapUpdate, Sem.run_bind, run_underlying hu, Result.andThen_ok, V.den, run_getObj_of hmo.1, checkKey_ok hk hk0, hnow w]
          rw [run_setObj_of hmo.1]
          simp
        · cases hq
        · cases hq
      · cases hq
    · cases hq
  · cases hq
theorem modify_same {l : List MapEntry} {j : Nat} {f : MapEntry → MapEntry} (hf : ∀ x, l[j]? = some x → f x = x) : (l.toArray.modify j f) = l.toArray := by
  apply Array.ext'
  simp only [Array.toList_modify]
  apply List.ext_getElem?
  intro q
  simp only [List.getElem?_modify]
  by_cases hjq : j = q
  · subst hjq
    cases hx : l[j]? with
    | none => simp
    | some x => simp [hf x hx]
  · simp [hjq]
theorem mapEntryV_ok (r : Rep e S w0 st.hp w) (hh : Holds e.int st.pc) {t : TypeId} {m k : V} {ways : List (V × St)} (hk0 : V.ok st.hp k) (hq : mapEntryV P st t m k = .inl (some ways)) :
    ∃ u st', ways = [(u, st')] ∧ Gives P e S w0 st w (Instr.mapEntry t (m.den e) (k.den e)) u st' := by
  unfold mapEntryV at hq
  split at hq
  · rename_i kt et i hu
    split at hq
    · rename_i hk
      split at hq
      · rename_i es c hm
        have hmo := map_ok r hm
        have fo := findK_ok (P := P) (h := st.hp) (e := e) hh hk hk0 hmo.2.1
        split at hq
        · rename_i j v' hf
          obtain ⟨⟨kv, n, hg⟩, hnow⟩ := fo.1 j v' hf
          split at hq
          · rename_i hform
            split at hq
            · rename_i k' v n' hg'
              split at hq
              · rename_i hs
                cases hq
                rw [hg] at hg'
                cases hg'
                have hsame := V.same_eq hs
                subst hsame
                have turn := map_turn (fs := es) (d := c) r hh hm hmo.2.1
                have hkey : (((es.map fun (k, v, n) => (⟨k.den e, v.den e, n⟩ : MapEntry)).toArray[j]?).map (·.key)).getD (kv.den e) = kv.den e := by
                  simp [hg]
                have hborn : (((es.map fun (k, v, n) => (⟨k.den e, v.den e, n⟩ : MapEntry)).toArray[j]?).map (·.born)).getD 0 = n := by
                  simp [hg]
                have hkeep : (Instr.keyThatStays (kv.den e) (kv.den e)).run P w = .ok (kv.den e) w := by
                  unfold Instr.keyThatStays; rw [litKey_bits hform]; rfl
                have hmod : ((es.map fun (k, v, n) => (⟨k.den e, v.den e, n⟩ : MapEntry)).toArray.modify j fun x => { x with key := kv.den e }) = (es.map fun (k, v, n) => (⟨k.den e, v.den e, n⟩ : MapEntry)).toArray := by
                  refine modify_same fun x hx => ?_
                  simp only [List.getElem?_map, hg, Option.map_some, Option.some.injEq] at hx
                  subst hx
                  rfl
                refine ⟨_, _, rfl, e, _, ?_, turn, ?_⟩
                · simp only [Instr.mapEntry, Sem.run_bind, run_underlying hu, Result.andThen_ok, V.den, run_getObj_of hmo.1, checkKey_ok hk hk0, hnow w, hkey, hkeep, hmod, hborn]
                  rw [run_setObj_of hmo.1]
                  simp [V.denL, V.den, N.den, goInt, hg]
                · have hv := (hmo.2.1 _ (List.mem_of_getElem? hg)).2
                  have := V.ok_later turn.later.has hv
                  exact ⟨this, trivial, trivial⟩
              · cases hq
            · cases hq
          · cases hq
        · rename_i hf
          split at hq
          · rename_i z hz
            cases hq
            have hnow := fo.2 hf
            have hzz := zeroV_ok hz
            have turn := map_turn (fs := es ++ [(k, z, c)]) (d := c + 1) r hh hm (fun x hx => by
              rcases List.mem_append.1 hx with h1 | h1
              · exact hmo.2.1 x h1
              · simp at h1; subst h1; exact ⟨hk0, hzz.2.1 _⟩)
            refine ⟨_, _, rfl, e, _, ?_, turn, ?_⟩
            · simp only [Instr.mapEntry, Sem.run_bind, run_underlying hu, Result.andThen_ok, V.den, run_getObj_of hmo.1, checkKey_ok hk hk0, hnow w, hzz.1 e]
              rw [run_setObj_of hmo.1]
              simp [V.denL, V.den, N.den, goInt]
            · exact ⟨hzz.2.1 _, trivial, trivial⟩
          · cases hq
        · cases hq
        · cases hq
      · cases hq
    · cases hq
  · cases hq
theorem stampAt_ok (e : Env) (b : Nat) : ∀ (es : List (V × V × Nat)) (j i : Nat), stampAt b es j = some i → j ≤ i ∧ (es.map fun (k, v, n) => (⟨k.den e, v.den e, n⟩ : MapEntry)).findIdx? (fun x => (x.born : Int) == (b : Int)) = some (i - j)
  | [], j, i, h => by cases h
  | (k, v, n) :: es, j, i, h => by
    simp only [stampAt] at h
    split at h
    · rename_i hb
      cases h
      have hb := beq_true hb
      subst hb
      refine ⟨Nat.le_refl _, ?_⟩
      simp [List.findIdx?_cons]
    · rename_i hb
      have hb := beq_false hb
      obtain ⟨h1, h2⟩ := stampAt_ok e b es (j + 1) i h
      refine ⟨by omega, ?_⟩
      have hne : ((n : Int) == (b : Int)) = false := by simp; omega
      simp only [List.map_cons, List.findIdx?_cons, hne, h2, Bool.false_eq_true, if_false, Option.map_some, Option.some.injEq]
      omega
theorem entryStoreV_ok (r : Rep e S w0 st.hp w) (hh : Holds e.int st.pc) {t : TypeId} {m s v : V} {ways : List (V × St)} (hv0 : V.ok st.hp v) (hq : entryStoreV st m s v = some ways) :
    ∃ st' w', ways = [(.und, st')] ∧ (Instr.entryStore t (m.den e) (s.den e) (v.den e)).run P w = .ok () w' ∧ After e S w0 st e st' w' := by
  unfold entryStoreV at hq
  split at hq
  · rename_i i kd b
    split at hq
    · rename_i es c hm
      split at hq
      · rename_i j hj
        cases hq
        have hmo := map_ok r hm
        have hi := (stampAt_ok e b es 0 j hj).2
        have turn := map_turn (fs := setEntry v es j) (d := c) r hh hm (setEntry_ok hv0 hmo.2.1)
        refine ⟨_, _, rfl, ?_, turn⟩
        have hidx : (es.map fun (k, v, n) => (⟨k.den e, v.den e, n⟩ : MapEntry)).toArray.findIdx? (fun x => (x.born : Int) == (b : Int)) = some j := by
          rw [List.findIdx?_toArray, hi]; simp
        simp only [Instr.entryStore, Sem.run_bind, Result.andThen_ok, V.den, N.den, asInt, asIntOf, Sem.run_pure, run_getObj_of hmo.1, Int.ofNat_eq_natCast, hidx]
        rw [run_setObj_of hmo.1, setEntry_map]
        congr 3
        apply congrArg (fun x => Obj.map x c)
        apply Array.ext'
        simp only [Array.toList_modify]
      · cases hq
    · cases hq
  · cases hq
end
end Go.Proofs.Ytnfnhhphoiebbaa.Sx
