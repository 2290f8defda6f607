/- Read-only operations: slices, maps, lengths, interfaces, parts put together. -/
import Derived.Test.YtnfnhhphoiebbaaSh
set_option linter.unusedVariables false
set_option linter.unusedSimpArgs false
namespace Go.Proofs.Ytnfnhhphoiebbaa.Sx
open Go

section
variable {P : Program} {glob : Nat → Option Nat} {e : Env} {S : Nat → Prop} {w0 w : World} {st : St} {h : T} {tm : List V} {a : Act}

theorem boundV_some {pc : Pc} (hh : Holds e.int pc) {x : V} {d most n : Nat} (hb : boundV pc (some x) d most = some n) (c : BoundsCode) (w : World) :
    (Instr.sliceBound (x.den e) most c).run P w = .ok n w ∧ n ≤ most := by
  unfold boundV at hb
  split at hb
  · rename_i he; cases he
  · rename_i k a he
    cases he
    split at hb
    · rename_i i hi
      split at hb
      · rename_i hle
        cases hb
        have hle := Nat.le_of_ble_eq_true hle
        have hk := known_ok hh hi
        refine ⟨?_, hle⟩
        simp [Instr.sliceBound, V.den, asIntOf, hk, hle]
      · cases hb
    · cases hb
  · cases hb
theorem boundV_none {pc : Pc} {d most n : Nat} (hb : boundV pc none d most = some n) : n = d ∧ d ≤ most := by
  unfold boundV at hb
  split at hb
  · split at hb
    · rename_i hle; cases hb; exact ⟨rfl, Nat.le_of_ble_eq_true hle⟩
    · cases hb
  · rename_i he; cases he
  · rename_i he; cases he

theorem sliceBounds_ok {pc : Pc} (hh : Holds e.int pc) {isS : Bool} {len cap : Nat} {lo hi : Option V} {b t : Nat} (h1 : boundV pc hi len cap = some t) (h2 : boundV pc lo 0 t = some b) (w : World) :
    (Instr.sliceBounds isS len cap (lo.map (V.den e)) (hi.map (V.den e)) none).run P w = .ok (b, t, cap) w ∧ b ≤ t ∧ t ≤ cap := by
  cases hi with
  | none =>
    obtain ⟨rfl, hle⟩ := boundV_none h1
    cases lo with
    | none =>
      obtain ⟨rfl, _⟩ := boundV_none h2
      exact ⟨by simp [Instr.sliceBounds], by omega, hle⟩
    | some x =>
      refine ⟨?_, (boundV_some (P := P) hh h2 .index w).2, hle⟩
      simp [Instr.sliceBounds, (boundV_some (P := P) hh h2 _ w).1]
  | some y =>
    have hle := (boundV_some (P := P) hh h1 .index w).2
    cases lo with
    | none =>
      obtain ⟨rfl, _⟩ := boundV_none h2
      refine ⟨?_, by omega, hle⟩
      simp [Instr.sliceBounds, (boundV_some (P := P) hh h1 _ w).1]
    | some x =>
      refine ⟨?_, (boundV_some (P := P) hh h2 .index w).2, hle⟩
      simp [Instr.sliceBounds, (boundV_some (P := P) hh h1 _ w).1, (boundV_some (P := P) hh h2 _ w).1]

theorem boundV_more {pc : Pc} (hh : Holds e.int pc) {x : V} {d most cap n : Nat} (hc : most ≤ cap) (hb : boundV pc (some x) d most = some n) (c : BoundsCode) (w : World) :
    (Instr.sliceBound (x.den e) cap c).run P w = .ok n w ∧ n ≤ most := by
  unfold boundV at hb
  split at hb
  · rename_i he; cases he
  · rename_i k a he
    cases he
    split at hb
    · rename_i i hi
      split at hb
      · rename_i hle
        cases hb
        have hle := Nat.le_of_ble_eq_true hle
        have hk := known_ok hh hi
        have hle2 : n ≤ cap := by omega
        refine ⟨?_, hle⟩
        simp [Instr.sliceBound, V.den, asIntOf, hk, hle2]
      · cases hb
    · cases hb
  · cases hb
/-- Bounds below a capacity of which just a part is known. -/
theorem sliceBounds_more {pc : Pc} (hh : Holds e.int pc) {isS : Bool} {len k cap : Nat} (hc : k ≤ cap) {lo hi : Option V} {b t : Nat} (h1 : boundV pc hi len k = some t) (h2 : boundV pc lo 0 t = some b) (w : World) :
    (Instr.sliceBounds isS len cap (lo.map (V.den e)) (hi.map (V.den e)) none).run P w = .ok (b, t, cap) w ∧ b ≤ t ∧ t ≤ k := by
  cases hi with
  | none =>
    obtain ⟨rfl, hle⟩ := boundV_none h1
    cases lo with
    | none =>
      obtain ⟨rfl, _⟩ := boundV_none h2
      exact ⟨by simp [Instr.sliceBounds], by omega, hle⟩
    | some x =>
      refine ⟨?_, (boundV_some (P := P) hh h2 .index w).2, hle⟩
      simp [Instr.sliceBounds, (boundV_some (P := P) hh h2 _ w).1]
  | some y =>
    have hle := (boundV_more (P := P) hh hc h1 .index w).2
    cases lo with
    | none =>
      obtain ⟨rfl, _⟩ := boundV_none h2
      refine ⟨?_, by omega, hle⟩
      simp [Instr.sliceBounds, (boundV_more (P := P) hh hc h1 _ w).1]
    | some x =>
      refine ⟨?_, (boundV_some (P := P) hh h2 .index w).2, hle⟩
      simp [Instr.sliceBounds, (boundV_more (P := P) hh hc h1 _ w).1, (boundV_some (P := P) hh h2 _ w).1]
theorem sliceBounds3 {pc : Pc} (hh : Holds e.int pc) {isS : Bool} {len k cap : Nat} (hc : k ≤ cap) {lo : Option V} {hi mx : V} {b t c : Nat} (h0 : boundV pc (some mx) 0 k = some c) (h1 : boundV pc (some hi) 0 c = some t) (h2 : boundV pc lo 0 t = some b) (w : World) :
    (Instr.sliceBounds isS len cap (lo.map (V.den e)) (some (hi.den e)) (some (mx.den e))).run P w = .ok (b, t, c) w ∧ b ≤ t ∧ t ≤ c ∧ c ≤ k := by
  have hle0 := (boundV_more (P := P) hh hc h0 .index w).2
  have hle := (boundV_some (P := P) hh h1 .index w).2
  cases lo with
  | none =>
    obtain ⟨rfl, _⟩ := boundV_none h2
    refine ⟨?_, by omega, hle, hle0⟩
    simp [Instr.sliceBounds, (boundV_more (P := P) hh hc h0 _ w).1, (boundV_some (P := P) hh h1 _ w).1]
  | some x =>
    refine ⟨?_, (boundV_some (P := P) hh h2 .index w).2, hle, hle0⟩
    simp [Instr.sliceBounds, (boundV_more (P := P) hh hc h0 _ w).1, (boundV_some (P := P) hh h1 _ w).1, (boundV_some (P := P) hh h2 _ w).1]
theorem roomV_ok (r : Rep e S w0 st.hp w) {i off eoff z k : Nat} (hr : roomV st i off eoff z = some k) : k ≤ e.cap i - eoff ∧ off = eoff * z ∧ 0 < z ∧ ∃ l t, st.hp.get i = some (.opn l t z) ∧ k = (l.length - off) / z := by
  unfold roomV at hr
  split at hr
  · rename_i l t y hb
    split at hr
    · rename_i hc
      cases hr
      rw [Bool.and_eq_true, Bool.and_eq_true] at hc
      have hz := beq_true hc.1
      have ho := beq_true hc.2.1
      have hp : 0 < z := by simpa [Nat.blt_eq] using hc.2.2
      subst hz
      obtain ⟨more, _, hl⟩ := r.blk i _ hb
      refine ⟨?_, ho, hp, l, t, hb, rfl⟩
      have h1 : l.length ≤ e.cap i * z := by omega
      have h2 : (l.length - off) / z ≤ (e.cap i * z - eoff * z) / z := Nat.div_le_div_right (by omega)
      rw [← Nat.sub_mul, Nat.mul_div_cancel _ hp] at h2
      exact h2
    · cases hr
  · cases hr
theorem moveV_eq (b c off z : Nat) (g : Nat) : (if c = b then (⟨g, off, none⟩ : Addr) else ⟨g, off + b * z, none⟩) = ⟨g, moveV b c off z, none⟩ := by
  unfold moveV
  cases hn : Nat.beq c b
  · rw [if_neg (beq_false hn)]
  · rw [if_pos (beq_true hn)]
theorem sliceMoreV_ok (r : Rep e S w0 st.hp w) (hh : Holds e.int st.pc) {t : TypeId} {x u : V} {lo hi mx : Option V} (hx : V.ok st.hp x) (hq : sliceMoreV P st t x lo hi mx = .ok u) :
    (Instr.sliceAt t (x.den e) (lo.map (V.den e)) (hi.map (V.den e)) (mx.map (V.den e))).run P w = .ok (u.den e) w ∧ V.ok st.hp u := by
  unfold sliceMoreV at hq
  split at hq
  · rename_i el i off eoff len hu
    split at hq
    · rename_i z hz
      split at hq
      · rename_i k hk
        split at hq
        · rename_i t' h1
          split at hq
          · rename_i b h2
            split at hq
            · rename_i hb
              cases hq
              obtain ⟨hc, ho, hp, _⟩ := roomV_ok r hk
              have hs := sliceBounds_more (P := P) (e := e) hh (isS := true) hc h1 h2 w
              refine ⟨?_, hx⟩
              simp only [Instr.sliceAt, Instr.slice, Sem.run_bind, run_underlying hu, Result.andThen_ok, V.den, Sem.run_pure, Option.map_none, hs.1, sizeT_run hz, Option.map_some, addr_add]
              congr 2
              · split
                · rename_i heq
                  rw [Bool.or_eq_true] at hb
                  rcases hb with hb | hb
                  · have : b < k := by simpa [Nat.blt_eq] using hb
                    omega
                  · have := beq_true hb
                    subst this
                    simp
                · rfl
              · omega
            · cases hq
          · cases hq
        · cases hq
      · cases hq
    · cases hq
  · rename_i el i off eoff len m hu
    split at hq
    · rename_i z y hz
      split at hq
      · rename_i k hk
        split at hq
        · rename_i c h0
          split at hq
          · rename_i t' h1
            split at hq
            · rename_i b h2
              cases hq
              obtain ⟨hc, ho, hp, _⟩ := roomV_ok r hk
              have hs := sliceBounds3 (P := P) (e := e) hh (isS := true) (len := len) hc h0 h1 h2 w
              refine ⟨?_, hx⟩
              simp only [Instr.sliceAt, Instr.slice, Sem.run_bind, run_underlying hu, Result.andThen_ok, V.den, Sem.run_pure, Option.map_some, hs.1, sizeT_run hz, addr_add]
              congr 2
              rw [← moveV_eq]
              split <;> rfl
            · cases hq
          · cases hq
        · cases hq
      · cases hq
    · cases hq
  · rename_i el i off len cap m hu
    split at hq
    · rename_i z y hz
      split at hq
      · rename_i c h0
        split at hq
        · rename_i t' h1
          split at hq
          · rename_i b h2
            cases hq
            have hs := sliceBounds3 (P := P) (e := e) hh (isS := true) (len := len) (Nat.le_refl cap) h0 h1 h2 w
            refine ⟨?_, hx⟩
            simp only [Instr.sliceAt, Instr.slice, Sem.run_bind, run_underlying hu, Result.andThen_ok, V.den, Sem.run_pure, Option.map_some, hs.1, sizeT_run hz, addr_add]
            congr 2
            rw [← moveV_eq]
            split <;> rfl
          · cases hq
        · cases hq
      · cases hq
    · cases hq
  · rename_i el m hu
    split at hq
    · rename_i z y hz
      split at hq
      · rename_i c h0
        split at hq
        · rename_i t' h1
          split at hq
          · rename_i b h2
            cases hq
            have hs := sliceBounds3 (P := P) (e := e) hh (isS := true) (len := 0) (Nat.le_refl 0) h0 h1 h2 w
            refine ⟨?_, trivial⟩
            simp only [Instr.sliceAt, Instr.slice, Sem.run_bind, run_underlying hu, Result.andThen_ok, V.den, Sem.run_pure, Option.map_some, hs.1, sizeT_run hz, Option.map_none]
            have e1 : c = 0 := by omega
            have e2 : t' = 0 := by omega
            subst e1 e2
            simp
          · cases hq
        · cases hq
      · cases hq
    · cases hq
  · cases hq

theorem sliceV_ok {pc : Pc} (hh : Holds e.int pc) {t : TypeId} {x u : V} {lo hi : Option V} (hx : V.ok h x) (hq : sliceV P pc t x lo hi = .ok u) (w : World) :
    (Instr.sliceAt t (x.den e) (lo.map (V.den e)) (hi.map (V.den e)) none).run P w = .ok (u.den e) w ∧ V.ok h u := by
  unfold sliceV at hq
  split at hq
  · rename_i l hu
    split at hq
    · rename_i t' h1
      split at hq
      · rename_i b h2
        cases hq
        refine ⟨?_, trivial⟩
        have hs : (⟨(l.map UInt8.ofNat).toArray⟩ : ByteArray).size = l.length := by simp [ByteArray.size]
        have := sliceBounds_ok (P := P) (e := e) hh (isS := false) h1 h2 w
        simp only [Instr.sliceAt, Instr.slice, Sem.run_bind, run_underlying hu, Result.andThen_ok, V.den, Option.isSome_none, Bool.false_eq_true, if_false, Sem.run_pure, hs, this.1]
        congr 2
        apply ByteArray.ext
        simp [List.map_take, List.map_drop]
      · cases hq
    · cases hq
  · rename_i n el i off hu
    split at hq
    · rename_i t' z h1 hz
      split at hq
      · rename_i b h2
        cases hq
        have hb := sliceBounds_ok (P := P) (e := e) hh (isS := false) h1 h2 w
        refine ⟨?_, hx⟩
        simp only [Instr.sliceAt, Sem.run_bind, run_underlying hu, Result.andThen_ok, V.den, Instr.sureAddr, Sem.run_pure, hb.1, sizeT_run hz, addr_add]
        congr 2
        cases hn : Nat.beq n b
        · rw [if_neg (beq_false hn)]
        · rw [if_pos (beq_true hn)]
      · cases hq
    · cases hq
  · rename_i el i off len cap hu
    split at hq
    · rename_i t' z h1 hz
      split at hq
      · rename_i b h2
        cases hq
        have hb := sliceBounds_ok (P := P) (e := e) hh (isS := true) h1 h2 w
        refine ⟨?_, hx⟩
        simp only [Instr.sliceAt, Instr.slice, Sem.run_bind, run_underlying hu, Result.andThen_ok, V.den, Sem.run_pure, hb.1, sizeT_run hz, Option.map_some, addr_add]
        congr 2
        cases hn : Nat.beq cap b
        · rw [if_neg (beq_false hn)]
        · rw [if_pos (beq_true hn)]
      · cases hq
    · cases hq
  · rename_i el hu
    split at hq
    · rename_i t' z h1 hz
      split at hq
      · rename_i b h2
        cases hq
        have hb := sliceBounds_ok (P := P) (e := e) hh (isS := true) h1 h2 w
        refine ⟨?_, trivial⟩
        simp only [Instr.sliceAt, Instr.slice, Sem.run_bind, run_underlying hu, Result.andThen_ok, V.den, Sem.run_pure, hb.1, sizeT_run hz, Option.map_none]
        have : t' = 0 := by omega
        subst this
        simp
      · cases hq
    · cases hq
  · cases hq

theorem zeroV_ok {t : TypeId} {z : V} (hz : zeroV P t = some z) : (∀ e w, (zeroValue t).run P w = .ok (z.den e) w) ∧ (∀ h, V.ok h z) ∧ ∃ i v, P.info? t = some i ∧ i.zero = some v ∧ ∀ e, z.den e = v := by
  unfold zeroV at hz
  split at hz
  · rename_i i hi
    split at hz
    · rename_i v hv
      have := ofV_ok hz
      exact ⟨fun e w => by simp [zeroValue, typeInfo, hi, hv, this.1 e], this.2, i, v, hi, hv, this.1⟩
    · cases hz
  · cases hz

theorem zeroV_any {t : TypeId} {z : V} (hz : zeroV P t = some z) : z.isAny = false := by
  unfold zeroV at hz
  split at hz
  · split at hz
    · exact ofV_any hz
    · cases hz
  · cases hz
theorem assertV_ok {x u : V} {s t : TypeId} {ok : Bool} (hx : V.ok h x) (hq : assertV P x t ok = .ok u) (w : World) :
    (Instr.typeAssert (x.den e) s t ok).run P w = .ok (u.den e) w ∧ V.ok h u := by
  have two : ∀ (v : V) (n : Int), (V.tup [v, .b (.lit n)]).den e = .tuple #[v.den e, .bool (tr n)] := fun _ _ => rfl
  unfold assertV at hq
  split at hq
  · rename_i want t' v hu
    split at hq
    · rename_i i hi
      split at hq
      · rename_i hm
        cases hq
        cases ok
        · exact ⟨by simp [Instr.typeAssert, run_underlying hu, V.den, typeInfo, hi, hm], hx⟩
        · exact ⟨by simp [Instr.typeAssert, run_underlying hu, V.den, typeInfo, hi, hm, V.denL, N.den, ieq], ⟨hx, trivial, trivial⟩⟩
      · rename_i m hm
        split at hq
        · rename_i z hz
          cases hq
          have := zeroV_ok hz
          exact ⟨by simp [Instr.typeAssert, run_underlying hu, V.den, typeInfo, hi, hm, this.1 e, V.denL, N.den, ieq], ⟨this.2.1 h, trivial, trivial⟩⟩
        · cases hq
    · cases hq
  · rename_i want hu
    split at hq
    · rename_i z hz
      cases hq
      have := zeroV_ok hz
      exact ⟨by simp [Instr.typeAssert, run_underlying hu, V.den, this.1 e, V.denL, N.den, ieq], ⟨this.2.1 h, trivial, trivial⟩⟩
    · cases hq
  · rename_i d hd hu
    split at hq
    · rename_i z hz
      cases hq
      have := zeroV_ok hz
      refine ⟨?_, ⟨this.2.1 h, trivial, trivial⟩⟩
      cases d <;> first
        | (exfalso; exact hd _ rfl)
        | simp [Instr.typeAssert, run_underlying hu, V.den, this.1 e, V.denL, N.den, ieq]
    · cases hq
  · rename_i d t' v hd hu
    have hd' : ∀ ms, d ≠ .interface ms := fun ms hm => hd ms hm
    split at hq
    · rename_i ht
      have ht := beq_true ht
      subst ht
      cases hq
      cases ok
      · refine ⟨?_, hx⟩
        cases d <;> first
          | (exfalso; exact hd' _ rfl)
          | simp [Instr.typeAssert, run_underlying hu, V.den]
      · refine ⟨?_, ⟨hx, trivial, trivial⟩⟩
        cases d <;> first
          | (exfalso; exact hd' _ rfl)
          | simp [Instr.typeAssert, run_underlying hu, V.den, V.denL, N.den, ieq]
    · rename_i ht
      have ht := beq_false ht
      split at hq
      · rename_i z hz
        cases hq
        have := zeroV_ok hz
        refine ⟨?_, ⟨this.2.1 h, trivial, trivial⟩⟩
        cases d <;> first
          | (exfalso; exact hd' _ rfl)
          | simp [Instr.typeAssert, run_underlying hu, V.den, ht, this.1 e, V.denL, N.den, ieq]
      · cases hq
  · cases hq

theorem map_ok (r : Rep e S w0 st.hp w) {i : Nat} {es : List (V × V × Nat)} {c : Nat} (hm : st.hp.get i = some (.mp es c)) :
    w.heap[e.blk i]? = some (.map (es.map fun (k, v, n) => (⟨k.den e, v.den e, n⟩ : MapEntry)).toArray c) ∧ (∀ x ∈ es, V.ok st.hp x.1 ∧ V.ok st.hp x.2.1) ∧ st.hp.has i :=
  ⟨r.blk i _ hm, r.okb i _ hm, by unfold T.has; rw [hm]; simp⟩
theorem run_getObj_of {i : Nat} {es : Array MapEntry} {c : Nat} (hm : w.heap[i]? = some (.map es c)) : (getObj i).run P w = .ok (.map es c) w := by
  simp [getObj, Sem.run, hm]

theorem lenV_ok (r : Rep e S w0 st.hp w) {t ty : TypeId} {x u : V} (hq : lenV P st t x = .ok u) :
    (Builtin.len_ #[t] ty #[x.den e]).run P w = .ok (u.den e) w ∧ V.ok h u := by
  unfold lenV at hq
  split at hq
  · rename_i l hu
    cases hq
    have hs : (⟨(l.map UInt8.ofNat).toArray⟩ : ByteArray).size = l.length := by simp [ByteArray.size]
    exact ⟨by simp [Builtin.len_, run_underlying hu, V.den, N.den, goInt, hs], trivial⟩
  · rename_i n t' hu
    cases hq
    exact ⟨by simp [Builtin.len_, run_underlying hu, V.den, N.den, goInt], trivial⟩
  · rename_i t' i o l c hu; cases hq; exact ⟨by simp [Builtin.len_, run_underlying hu, V.den, N.den, goInt], trivial⟩
  · rename_i t' i o f l hu; cases hq; exact ⟨by simp [Builtin.len_, run_underlying hu, V.den, N.den, goInt], trivial⟩
  · rename_i t' i len hu
    split at hq
    · rename_i lo hi hb
      split at hq
      · rename_i h0
        cases hq
        rw [ile_iff] at h0
        have := len.bnd_ok e.int _ _ hb
        have h2 : ((len.den e.int).toNat : Int) = len.den e.int := by omega
        refine ⟨?_, trivial⟩
        simp [Builtin.len_, run_underlying hu, V.den, goInt]
        omega
      · cases hq
    · cases hq
  · rename_i t' hu; cases hq; exact ⟨by simp [Builtin.len_, run_underlying hu, V.den, N.den, goInt], trivial⟩
  · rename_i t' t'' hu; cases hq; exact ⟨by simp [Builtin.len_, run_underlying hu, V.den, N.den, goInt], trivial⟩
  · rename_i t' t'' i hu
    split at hq
    · rename_i es c hm
      cases hq
      have := map_ok r hm
      exact ⟨by simp [Builtin.len_, run_underlying hu, V.den, N.den, goInt, run_getObj_of this.1], trivial⟩
    · cases hq
  · cases hq

/-! Keys -/
theorem plainKey_ok {kt : TypeId} {k : V} (hk : plainKey P kt k = true) : ∃ d, P.underlying kt = some d ∧
    (((∃ q a, d = .int q ∧ k = .n q a) ∨ (∃ l, d = .string ∧ k = .s l)) ∨ (∃ fs l, d = .struct fs ∧ k = .agg l ∧ keyParts P l fs.toList = true)) := by
  unfold plainKey at hk
  split at hk
  · rename_i q q' a hu
    have := kindSame_eq hk
    subst this
    exact ⟨_, hu, .inl (.inl ⟨q, a, rfl, rfl⟩)⟩
  · rename_i l hu; exact ⟨_, hu, .inl (.inr ⟨l, rfl, rfl⟩)⟩
  · rename_i fs l hu; exact ⟨_, hu, .inr ⟨fs, l, rfl, rfl, hk⟩⟩
  · cases hk
theorem keyParts_run {em : Bool} {n : Nat} {l : List V} (hl : V.okL h l) {f : Field → PUnit → Sem (ForInStep PUnit)}
    (hf : ∀ x s, f x s = (if x.name ≠ "_" then (do Instr.checkKey em (n + 1) x.type (← part x.type (V.denL e l).toArray x.offset); pure (.yield ⟨⟩)) else pure (.yield ⟨⟩))) :
    ∀ (fs : List Field), keyParts P l fs = true → ∀ w : World, (forIn fs (⟨⟩ : PUnit) f).run P w = .ok ⟨⟩ w
  | [], _, w => rfl
  | x :: fs, hk, w => by
    simp only [keyParts] at hk
    split at hk
    · rename_i q v hu hp
      have hpart := (partV_ok (P := P) (e := e) (h := h) hl hp w).1
      have ih := keyParts_run hl hf fs hk w
      rw [List.forIn_cons, hf]
      by_cases hn : x.name ≠ "_"
      · rw [if_pos hn]
        simp only [Sem.run_bind, hpart, Result.andThen_ok, Instr.checkKey, run_underlying hu, Sem.run_pure]
        exact ih
      · rw [if_neg hn]
        simp only [pure_bind]
        exact ih
    · cases hk
theorem checkKey_ok {kt : TypeId} {k : V} (hk : plainKey P kt k = true) (ho : V.ok h k) (em : Bool) (w : World) : (Instr.checkKey em 10000 kt (k.den e)).run P w = .ok () w := by
  obtain ⟨d, hu, hd⟩ := plainKey_ok hk
  have : ∀ n, (Instr.checkKey em (n + 1 + 1) kt (k.den e)).run P w = .ok () w := fun n => by
    rw [Instr.checkKey, Sem.run_bind, run_underlying hu w]
    rcases hd with (⟨q, a, rfl, rfl⟩ | ⟨l, rfl, rfl⟩) | ⟨fs, l, rfl, rfl, hp⟩
    · rfl
    · rfl
    · simp only [Result.andThen_ok, V.den]
      rw [← Array.forIn_toList]
      simp only [Sem.run_bind]
      rw [keyParts_run (P := P) (e := e) (em := em) (n := n) (h := h) (l := l) (by simpa [V.ok] using ho) (fun x s => rfl) fs.toList hp w]
      rfl
  exact this 9998
/-- What the reader finds among the entries is what the model finds. -/
theorem findV_ok {pc : Pc} (hh : Holds e.int pc) {kt : TypeId} {k : V} {d : TypeDesc} (hd : (∃ q a, d = .int q ∧ k = .n q a) ∨ (∃ l, d = .string ∧ k = .s l)) :
    ∀ (es : List (V × V × Nat)) (j : Nat),
      (∀ i v, findV pc k es j = .at i v → j ≤ i ∧ (∃ kv n, es[i - j]? = some (kv, v, n)) ∧ Instr.findNow d (k.den e) (es.map fun (k, v, n) => (⟨k.den e, v.den e, n⟩ : MapEntry)) j = some (some (i, v.den e))) ∧
      (findV pc k es j = .none → Instr.findNow d (k.den e) (es.map fun (k, v, n) => (⟨k.den e, v.den e, n⟩ : MapEntry)) j = some none)
  | [], j => ⟨fun i v hq => (by cases hq), fun _ => rfl⟩
  | (k', v', n) :: es, j => by
    have ih := findV_ok hh (kt := kt) hd es (j + 1)
    have step : ∀ b, Instr.sameNow d (k.den e) (k'.den e) = some b →
        (∀ i v, (match b with | true => Found.at j v' | false => findV pc k es (j + 1)) = .at i v → j ≤ i ∧ (∃ kv n', ((k', v', n) :: es)[i - j]? = some (kv, v, n')) ∧ Instr.findNow d (k.den e) (((k', v', n) :: es).map fun (k, v, n) => (⟨k.den e, v.den e, n⟩ : MapEntry)) j = some (some (i, v.den e))) ∧
        ((match b with | true => Found.at j v' | false => findV pc k es (j + 1)) = .none → Instr.findNow d (k.den e) (((k', v', n) :: es).map fun (k, v, n) => (⟨k.den e, v.den e, n⟩ : MapEntry)) j = some none) := by
      intro b hb
      cases b
      · refine ⟨fun i v hq => ?_, fun hq => ?_⟩
        · obtain ⟨h1, ⟨kv, n', h2⟩, h3⟩ := ih.1 i v hq
          refine ⟨by omega, ⟨kv, n', ?_⟩, ?_⟩
          · rw [show i - j = (i - (j + 1)) + 1 by omega]; exact h2
          · simp only [List.map_cons, Instr.findNow, hb]; exact h3
        · simp only [List.map_cons, Instr.findNow, hb]; exact ih.2 hq
      · refine ⟨fun i v hq => ?_, fun hq => (by cases hq)⟩
        cases hq
        refine ⟨Nat.le_refl _, ⟨k', n, by simp⟩, ?_⟩
        simp only [List.map_cons, Instr.findNow, hb]
    rcases hd with ⟨q, a, rfl, rfl⟩ | ⟨l, rfl, rfl⟩
    · cases k' with
      | n q' b =>
        simp only [findV]
        cases hk : kindSame q q'
        · exact ⟨fun i v hq => (by cases hq), fun hq => (by cases hq)⟩
        · have hk := kindSame_eq hk
          subst hk
          simp only
          cases hdec : dec pc (mkEq a b) with
          | none => exact ⟨fun i v hq => (by cases hq), fun hq => (by cases hq)⟩
          | some t =>
            have hb : Instr.sameNow (.int q) ((V.n q a).den e) ((V.n q b).den e) = some t := by
              have := dec_tr hh hdec
              rw [mkEq_den, tr_bI] at this
              simp only [Instr.sameNow, V.den, if_true, ← ieq_beq, this]
            have := step t hb
            cases t <;> exact this
      | _ => simp only [findV]; exact ⟨fun i v hq => (by cases hq), fun hq => (by cases hq)⟩
    · cases k' with
      | s m =>
        simp only [findV]
        have hb : Instr.sameNow .string ((V.s l).den e) ((V.s m).den e) = some (strSame l m) := by
          simp only [Instr.sameNow, V.den, str_beq]
        have := step (strSame l m) hb
        cases hs : strSame l m <;> rw [hs] at this <;> exact this
      | _ => simp only [findV]; exact ⟨fun i v hq => (by cases hq), fun hq => (by cases hq)⟩

abbrev entriesDen (e : Env) (es : List (V × V × Nat)) : List MapEntry := es.map fun (k, v, n) => (⟨k.den e, v.den e, n⟩ : MapEntry)
/-- Among entries whose keys are structs. -/
theorem findG_ok {pc : Pc} (hh : Holds e.int pc) {kt : TypeId} {k : V} (hk : V.ok h k) :
    ∀ (es : List (V × V × Nat)) (j : Nat), (∀ x ∈ es, V.ok h x.1 ∧ V.ok h x.2.1) →
      (∀ i v, findG P pc kt k es j = .at i v → j ≤ i ∧ (∃ kv n, es[i - j]? = some (kv, v, n)) ∧ ∀ w, (Instr.findAsking kt (k.den e) (entriesDen e es) j).run P w = .ok (some (i, v.den e)) w) ∧
      (findG P pc kt k es j = .none → ∀ w, (Instr.findAsking kt (k.den e) (entriesDen e es) j).run P w = .ok none w)
  | [], j, _ => ⟨fun i v hq => (by cases hq), fun _ w => rfl⟩
  | (k', v', n) :: es, j, hes => by
    have ih := findG_ok hh (kt := kt) hk es (j + 1) (fun x hx => hes x (List.mem_cons_of_mem _ hx))
    have hk' := (hes (k', v', n) (List.mem_cons_self ..)).1
    simp only [findG]
    cases hq0 : eqDeep P 4 pc kt k k' with
    | no => exact ⟨fun i v hq => (by cases hq), fun hq => (by cases hq)⟩
    | ask x => exact ⟨fun i v hq => (by cases hq), fun hq => (by cases hq)⟩
    | ok u =>
      obtain ⟨c, rfl, hrun⟩ := eqDeep_ok (P := P) (h := h) hh hk hk' hq0
      have run : ∀ w, (Op.equal kt (k.den e) (k'.den e)).run P w = .ok (tr (c.den e.int)) w := fun w => hrun 9996 w
      simp only
      cases hdec : dec pc c with
      | none => exact ⟨fun i v hq => (by cases hq), fun hq => (by cases hq)⟩
      | some t =>
        have ht := dec_tr hh hdec
        cases t
        · refine ⟨fun i v hq => ?_, fun hq => ?_⟩
          · obtain ⟨h1, ⟨kv, n', h2⟩, h3⟩ := ih.1 i v hq
            refine ⟨by omega, ⟨kv, n', ?_⟩, fun w => ?_⟩
            · rw [show i - j = (i - (j + 1)) + 1 by omega]; exact h2
            · simp only [entriesDen, List.map_cons, Instr.findAsking, Sem.run_bind, run, Result.andThen_ok, ht, Bool.false_eq_true, if_false]; exact h3 w
          · intro w
            simp only [entriesDen, List.map_cons, Instr.findAsking, Sem.run_bind, run, Result.andThen_ok, ht, Bool.false_eq_true, if_false]; exact ih.2 hq w
        · refine ⟨fun i v hq => ?_, fun hq => (by cases hq)⟩
          cases hq
          refine ⟨Nat.le_refl _, ⟨k', n, by simp⟩, fun w => ?_⟩
          simp only [entriesDen, List.map_cons, Instr.findAsking, Sem.run_bind, run, Result.andThen_ok, ht, if_true, Sem.run_pure]
theorem findKey_struct {kt : TypeId} {fs : Array Field} (hu : P.underlying kt = some (.struct fs)) {k : Value} {es : List MapEntry} {res : Option (Nat × Value)}
    (hr : ∀ w, (Instr.findAsking kt k es 0).run P w = .ok res w) (w : World) : (Instr.findKey kt k es).run P w = .ok res w := by
  cases es with
  | nil =>
    have := hr w
    simp only [Instr.findAsking, Sem.run_pure] at this
    simp only [Instr.findKey, Sem.run_bind, run_underlying hu, Result.andThen_ok, Instr.findNow, Sem.run_pure]
    exact this
  | cons x es =>
    have hno : Instr.findNow (.struct fs) k (x :: es) 0 = none := by simp [Instr.findNow, Instr.sameNow]
    simp only [Instr.findKey, Sem.run_bind, run_underlying hu, Result.andThen_ok, hno]
    exact hr w
/-- **What the reader finds among a map's entries is what the model finds.** -/
theorem findK_ok {pc : Pc} (hh : Holds e.int pc) {kt : TypeId} {k : V} (hk : plainKey P kt k = true) (ho : V.ok h k) {es : List (V × V × Nat)} (hes : ∀ x ∈ es, V.ok h x.1 ∧ V.ok h x.2.1) :
    (∀ i v, findK P pc kt k es = .at i v → (∃ kv n, es[i]? = some (kv, v, n)) ∧ ∀ w, (Instr.findKey kt (k.den e) (entriesDen e es)).run P w = .ok (some (i, v.den e)) w) ∧
    (findK P pc kt k es = .none → ∀ w, (Instr.findKey kt (k.den e) (entriesDen e es)).run P w = .ok none w) := by
  obtain ⟨d, hud, hd⟩ := plainKey_ok hk
  rcases hd with hd | ⟨fs, l, rfl, rfl, hp⟩
  · have fo := findV_ok (e := e) hh (kt := kt) hd es 0
    have hfind : ∀ res, Instr.findNow d (k.den e) (entriesDen e es) 0 = some res →
        ∀ w, (Instr.findKey kt (k.den e) (entriesDen e es)).run P w = .ok res w := fun res hf w => by
      simp [Instr.findKey, run_underlying hud, hf]
    have hkk : findK P pc kt k es = findV pc k es 0 := by
      rcases hd with ⟨q, a, rfl, rfl⟩ | ⟨l, rfl, rfl⟩ <;> rfl
    rw [hkk]
    refine ⟨fun i v hq => ?_, fun hq => hfind _ (fo.2 hq)⟩
    obtain ⟨_, hg, hn⟩ := fo.1 i v hq
    exact ⟨by simpa using hg, hfind _ hn⟩
  · have fo := findG_ok (P := P) (h := h) (e := e) hh (kt := kt) ho es 0 hes
    refine ⟨fun i v hq => ?_, fun hq => findKey_struct hud (fo.2 hq)⟩
    obtain ⟨_, hg, hn⟩ := fo.1 i v hq
    exact ⟨by simpa using hg, findKey_struct hud hn⟩

theorem lookupV_ok (r : Rep e S w0 st.hp w) (hh : Holds e.int st.pc) {t : TypeId} {m k u : V} {ok : Bool} (hk0 : V.ok st.hp k) (hq : lookupV P st t m k ok = .ok u) :
    (Instr.lookup t (m.den e) (k.den e) ok).run P w = .ok (u.den e) w ∧ V.ok st.hp u := by
  unfold lookupV at hq
  split at hq
  · rename_i kt et hu
    split at hq
    · rename_i hk
      split at hq
      · rename_i es hes
        have look : (∀ res, (∀ w, (Instr.findKey kt (k.den e) (entriesDen e es)).run P w = .ok res w) → (Instr.lookup t (m.den e) (k.den e) ok).run P w =
              ((match res with | some (_, v) => pure (v, true) | none => do pure (← zeroValue et, false) : Sem (Value × Bool)).run P w).andThen fun x w' => .ok (if ok then .tuple #[x.1, .bool x.2] else x.1) w') ∧
            ∀ x ∈ es, V.ok st.hp x.1 ∧ V.ok st.hp x.2.1 := by
          split at hes
          · cases hes
            refine ⟨fun res hf => ?_, by simp⟩
            have := hf w
            simp only [Instr.lookup, Sem.run_bind, run_underlying hu, Result.andThen_ok, V.den, Sem.run_pure, checkKey_ok hk hk0]
            simp only [entriesDen, List.map_nil] at this
            rw [this, Result.andThen_ok]
            cases res with
            | none => simp only [Sem.run_bind]; cases Sem.run P (zeroValue et) w <;> rfl
            | some x => rfl
          · rename_i i
            split at hes
            · rename_i es' c hm
              cases hes
              have hmo := map_ok r hm
              refine ⟨fun res hf => ?_, hmo.2.1⟩
              have := hf w
              simp only [Instr.lookup, Sem.run_bind, run_underlying hu, Result.andThen_ok, V.den, Sem.run_pure, checkKey_ok hk hk0, run_getObj_of hmo.1, this]
              cases res with
              | none => simp only [Result.andThen_ok, Sem.run_bind]; cases Sem.run P (zeroValue et) w <;> rfl
              | some x => rfl
            · cases hes
          · cases hes
        have fo := findK_ok (P := P) (h := st.hp) (e := e) hh hk hk0 look.2
        split at hq
        · rename_i j v hf
          cases hq
          obtain ⟨⟨kv, n, hg⟩, hnow⟩ := fo.1 j v hf
          have hv := (look.2 _ (List.mem_of_getElem? hg)).2
          rw [look.1 _ hnow]
          cases ok
          · exact ⟨rfl, hv⟩
          · exact ⟨rfl, ⟨hv, trivial, trivial⟩⟩
        · rename_i hf
          split at hq
          · rename_i z hz
            cases hq
            have hzz := zeroV_ok hz
            have hnow := fo.2 hf
            rw [look.1 _ hnow]
            simp only [Sem.run_bind, hzz.1 e, Result.andThen_ok, Sem.run_pure]
            cases ok
            · exact ⟨rfl, hzz.2.1 _⟩
            · exact ⟨rfl, ⟨hzz.2.1 _, trivial, trivial⟩⟩
          · cases hq
        · cases hq
        · cases hq
      · cases hq
    · cases hq
  · cases hq
end
end Go.Proofs.Ytnfnhhphoiebbaa.Sx
