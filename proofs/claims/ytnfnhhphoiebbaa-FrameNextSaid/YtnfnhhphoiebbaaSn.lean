/- Operations that act; one operation; operations one behind the other. -/
import Derived.Test.YtnfnhhphoiebbaaSm
set_option linter.unusedVariables false
set_option linter.unusedSimpArgs false
namespace Go.Proofs.Ytnfnhhphoiebbaa.Sx
open Go

section
variable {P : Program} {glob : Nat → Option Nat} {e : Env} {S : Nat → Prop} {w0 w : World} {st st' : St} {h : T} {tm : List V} {a : Act}

theorem copyV_ok (r : Rep e S w0 st.hp w) (hh : Holds e.int st.pc) {td ts ty : TypeId} {d s : V} {ways : List (V × St)} (hq : copyV P st td d s = some ways) :
    ∃ u st', ways = [(u, st')] ∧ Gives P e S w0 st w (Builtin.copy_ #[td, ts] ty #[d.den e, s.den e]) u st' := by
  unfold copyV at hq
  split at hq
  · rename_i el la lb hu ha hb
    split at hq
    · rename_i z hz
      split at hq
      · rename_i new hf
        split at hq
        · rename_i h1
          have hf' := firstV_ok (P := P) r hf
          have hmin : Nat.min lb la = minN la lb := by
            show (if lb ≤ la then lb else la) = _
            unfold minN
            cases hc : Nat.ble lb la
            · have : ¬ lb ≤ la := fun hh => by rw [Nat.ble_eq_true_of_le hh] at hc; cases hc
              rw [if_neg this]
            · rw [if_pos (Nat.le_of_ble_eq_true hc)]
          have run : ∀ {base : Option Addr} {cap : Nat} {w' : World}, (match base with | some a => storeCells a (V.denL e new) | none => pure ()).run P w = .ok () w' →
              (Builtin.copy_ #[td, ts] ty #[.slice base la cap, s.den e]).run P w = .ok (goInt (minN la lb)) w' := by
            intro base cap w' hst
            cases base with
            | none =>
              simp only [Sem.run_pure, Result.ok.injEq, true_and] at hst
              subst hst
              simp only [Builtin.copy_, List.getElem?_toArray, List.getElem?_cons_zero, List.getElem?_cons_succ, Sem.run_bind, run_underlying hu, Result.andThen_ok, lenOfV_ok hb, sizeT_run hz, hmin, hf'.1, Sem.run_pure]
            | some x =>
              simp only at hst
              simp only [Builtin.copy_, List.getElem?_toArray, List.getElem?_cons_zero, List.getElem?_cons_succ, Sem.run_bind, run_underlying hu, Result.andThen_ok, lenOfV_ok hb, sizeT_run hz, hmin, hf'.1, Sem.run_pure, List.toList_toArray, hst]
          split at hq
          · cases hq
            simp only [lenOfV, Option.some.injEq] at ha
            subst ha
            refine ⟨_, _, rfl, e, w, ?_, .refl r hh, trivial⟩
            have := run (base := none) (cap := 0) (w' := w) rfl
            have e0 : minN 0 lb = 0 := by
              unfold minN
              cases hc : Nat.ble lb 0
              · rfl
              · have := Nat.le_of_ble_eq_true hc; simp only; omega
            rw [e0] at this
            exact this
          · rename_i i off n cap
            simp only [lenOfV, Option.some.injEq] at ha
            subst ha
            split at hq
            · rename_i l t hb'
              split at hq
              · rename_i hfit
                cases hq
                obtain ⟨w', hrun, haf⟩ := storeCells_ok (P := P) r hh (i := i) (m := new) (off := off) hf'.2 h1 hb' (.inl ⟨l, t, rfl, Nat.le_of_ble_eq_true (lenLe_eq ▸ hfit), rfl⟩)
                exact ⟨_, _, rfl, e, w', run (base := some ⟨e.blk i, off, none⟩) (cap := cap) hrun, haf, trivial⟩
              · cases hq
            · cases hq
          · rename_i i off eoff n
            simp only [lenOfV, Option.some.injEq] at ha
            subst ha
            split at hq
            · rename_i l t z' hb'
              split at hq
              · rename_i hfit
                cases hq
                obtain ⟨w', hrun, haf⟩ := storeCells_ok (P := P) r hh (i := i) (m := new) (off := off) hf'.2 h1 hb' (.inr ⟨l, t, z', rfl, Nat.le_of_ble_eq_true (lenLe_eq ▸ hfit), rfl⟩)
                exact ⟨_, _, rfl, e, w', run (base := some ⟨e.blk i, off, none⟩) (cap := e.cap i - eoff) hrun, haf, trivial⟩
              · cases hq
            · cases hq
          · cases hq
        · cases hq
      · cases hq
    · cases hq
  · cases hq

theorem appendV_ok (r : Rep e S w0 st.hp w) (hh : Holds e.int st.pc) {ts tx ty : TypeId} {s x : V} {ways : List (V × St)} (hs : V.ok st.hp s) (hq : appendV P st ts tx s x = some ways) :
    ∃ u st', ways = [(u, st')] ∧ Gives P e S w0 st w (Builtin.append_ #[ts, tx] ty #[s.den e, x.den e]) u st' := by
  unfold appendV at hq
  split at hq
  · rename_i el dx hts htx
    split at hq
    · rename_i hx
      split at hq
      · rename_i it z n hi hz hn
        split at hq
        · rename_i hc
          rw [Bool.and_eq_true, Bool.and_eq_true] at hc
          have c1 := beq_true hc.1
          have c2 := Nat.le_of_ble_eq_true hc.2.1
          have c3 := Nat.le_of_ble_eq_true hc.2.2
          split at hq
          · rename_i new hf
            split at hq
            · rename_i h1
              exact appendTo_ok r hh hts htx hx hi hz c1 c2 hn c3 hf (firstV_length hf) h1 hs hq
            · cases hq
          · cases hq
        · cases hq
      · cases hq
    · cases hq
  · cases hq
theorem freeze_push (w : World) (cs : Array Value) (el : TypeId) (c : Nat) :
    ({ w with heap := w.heap.push (.cells cs el) } : World).freeze { block := w.heap.size, off := c } 1 = { w with heap := w.heap.push (.cells cs el (c, c + 1)) } := by
  unfold World.freeze
  rw [if_neg (by decide)]
  congr 1
  apply Array.ext
  · simp
  · intro k h1 h2
    rw [Array.getElem_modify]
    split
    · rename_i hk
      subst hk
      simp
    · rename_i hk
      have hk' : w.heap.size ≠ k := hk
      have h2' : k < w.heap.size + 1 := by simpa using h2
      have h3 : k < w.heap.size := by omega
      rw [Array.getElem_push_lt h3, Array.getElem_push_lt h3]
/-- A string's bytes: read-only cells. -/
theorem strBytes_ok (r : Rep e S w0 st.hp w) (hh : Holds e.int st.pc) {el : TypeId} {l : List Nat} {i : Nat} (hn : st.new (.ro (l.map fun c => .n .u8 (.lit (Int.ofNat (c % 256))))) = some (i, st')) :
    Gives P e S w0 st w (Conv.stringToBytes el ⟨(l.map UInt8.ofNat).toArray⟩) (.slo i 0 0 l.length) st' := by
  have hok : V.okL st.hp (l.map fun c => V.n .u8 (.lit (Int.ofNat (c % 256)))) := okL_iff.2 fun v hv => by
    obtain ⟨c, _, rfl⟩ := List.mem_map.1 hv; trivial
  generalize hc : (Question.appendCap l.length 0 el).cut (w.tape w.drawn (.appendCap l.length 0 el)) = c
  have hcl : l.length ≤ c := by rw [← hc]; simp [Question.cut]
  generalize hcs : (l.map fun c => Value.int .u8 (Int.ofNat (c % 256))).toArray ++ Array.replicate (c - l.length) (Value.int .u8 0) = cs
  have hsz : cs.size = c := by rw [← hcs]; simp; omega
  have := new_ok r hh hn c (.cells cs el (c, c + 1)) { w with drawn := w.drawn + 1, heap := w.heap.push (.cells cs el (c, c + 1)) } rfl rfl rfl rfl
    (fun hg => by
      refine ⟨cs, el, (c, c + 1), rfl, fun j v hv => ?_⟩
      rw [V.denL_later (lay_later hg _ _) hok] at hv
      rw [denL_map, List.map_map] at hv
      have hj := (List.getElem?_eq_some_iff.1 hv).1
      simp only [List.length_map] at hj
      rw [← hcs]
      rw [Array.getElem?_append_left (by simpa using hj)]
      simpa [Function.comp_def, V.den, N.den] using hv) hok
  refine ⟨_, _, ?_, this.1, this.2.1⟩
  have hel : (⟨(l.map UInt8.ofNat).toArray⟩ : ByteArray).data.map (fun b => Value.int .u8 b.toNat) = (l.map fun c => Value.int .u8 (Int.ofNat (c % 256))).toArray := by
    apply Array.ext'
    simp [Function.comp_def]
  have hs : (⟨(l.map UInt8.ofNat).toArray⟩ : ByteArray).size = l.length := by simp [ByteArray.size]
  have hshape : ({ w with drawn := w.drawn + 1, heap := w.heap.push (.cells cs el) } : World).shape? w.heap.size = some (el, c) := by
    simp only [World.shape?, Array.getElem?_push_size, hsz]
  have hfr := freeze_push { w with drawn := w.drawn + 1 } cs el c
  simp only [Conv.stringToBytes, hs, Sem.run_bind, run_choose, Question.forced, hc, hel, newRow, run_newObj, Result.andThen_ok, Sem.run_pure, V.den, Bool.false_eq_true, if_false, hcs]
  simp only [markStringish, shape, freeze, Sem.run_bind, Sem.run, hshape, Result.andThen_ok]
  simp only [hfr, Result.andThen_ok, (lay_self e i w.heap.size c).1, (lay_self e i w.heap.size c).2, Nat.sub_zero]

theorem rep_all {n : Nat} {l : List V} (h : l.all V.one = true) : (rep n l).all V.one = true := by
  induction n with
  | zero => rfl
  | succ n ih => simp only [rep, List.all_append, h, ih, Bool.and_self]
theorem zeroCells_den (e : Env) {el : TypeId} {z : V} {v : Value} (hany : z.isAny = false) (hzv : ∀ e, z.den e = v) (n : Nat) : Builtin.zeroCells v.cells n = (V.denL e (rep n z.cellsOf)).toArray := by
  unfold Builtin.zeroCells
  rw [← hzv e, cellsOf_den e hany]
  have := rep_den e n z.cellsOf
  simp only [List.size_toArray, denL_length] at this ⊢
  exact this
theorem clearV_ok (r : Rep e S w0 st.hp w) (hh : Holds e.int st.pc) {t ty : TypeId} {x : V} {ways : List (V × St)} (hq : clearV P st t x = some ways) :
    ∃ st', ways = [(.und, st')] ∧ ∃ w', (Builtin.clear_ #[t] ty #[x.den e]).run P w = .ok (.tuple #[]) w' ∧ After e S w0 st e st' w' := by
  unfold clearV at hq
  split at hq
  · rename_i el hu
    cases hq
    refine ⟨_, rfl, w, ?_, .refl r hh⟩
    simp [Builtin.clear_, run_underlying hu, V.den]
  · rename_i el i off n cap hu
    split at hq
    · cases hq
      refine ⟨_, rfl, w, ?_, .refl r hh⟩
      simp [Builtin.clear_, run_underlying hu, V.den]
    · rename_i n
      split at hq
      · rename_i z l t' hz hb
        split at hq
        · rename_i hfit
          rw [Bool.and_eq_true] at hfit
          obtain ⟨hfit, hone⟩ := hfit
          have hfit := Nat.le_of_ble_eq_true hfit
          cases hq
          obtain ⟨z1, z2, iz, zv, _, _, zden⟩ := zeroV_ok hz
          obtain ⟨w', hrun, haf⟩ := storeCells_ok (P := P) r hh (i := i) (m := rep (n + 1) z.cellsOf) (off := off) (rep_ok (cellsOf_ok (z2 _))) (rep_all hone) hb (.inl ⟨l, t', rfl, hfit, rfl⟩)
          refine ⟨_, rfl, w', ?_, haf⟩
          simp only [Builtin.clear_, List.getElem?_toArray, List.getElem?_cons_zero, Sem.run_bind, run_underlying hu, V.den, Result.andThen_ok, z1 e w, zeroCells_den e (el := el) (zeroV_any hz) (fun e => zden e) (n + 1), zden, hrun, Sem.run_pure]
        · cases hq
      · cases hq
  · rename_i el i off eoff n hu
    split at hq
    · cases hq
      refine ⟨_, rfl, w, ?_, .refl r hh⟩
      simp [Builtin.clear_, run_underlying hu, V.den]
    · rename_i n
      split at hq
      · rename_i z l t' y hz hb
        split at hq
        · rename_i hfit
          rw [Bool.and_eq_true] at hfit
          obtain ⟨hfit, hone⟩ := hfit
          have hfit := Nat.le_of_ble_eq_true hfit
          cases hq
          obtain ⟨z1, z2, iz, zv, _, _, zden⟩ := zeroV_ok hz
          obtain ⟨w', hrun, haf⟩ := storeCells_ok (P := P) r hh (i := i) (m := rep (n + 1) z.cellsOf) (off := off) (rep_ok (cellsOf_ok (z2 _))) (rep_all hone) hb (.inr ⟨l, t', y, rfl, hfit, rfl⟩)
          refine ⟨_, rfl, w', ?_, haf⟩
          simp only [Builtin.clear_, List.getElem?_toArray, List.getElem?_cons_zero, Sem.run_bind, run_underlying hu, V.den, Result.andThen_ok, z1 e w, zeroCells_den e (el := el) (zeroV_any hz) (fun e => zden e) (n + 1), zden, hrun, Sem.run_pure]
        · cases hq
      · cases hq
  · cases hq

end
end Go.Proofs.Ytnfnhhphoiebbaa.Sx
