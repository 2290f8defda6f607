/- Operations that act; one operation; operations one behind the other. -/
import Derived.Test.YtffhbmkpcenkoaaDoorSm
namespace Go.Proofs.YtffhbmkpcenkoaaDoor.Sx
open Go

section
variable {P : Program} {glob : Nat → Option Nat} {e : Env} {S : Nat → Prop} {w0 w : World} {st st' : St} {h : T} {tm : List V} {a : Act}

theorem copyV_ok (r : Rep e S w0 st.hp w) (hh : Holds e.int st.pc) {td ts ty : TypeId} {d s : V} {ways : List (V × St)} (hq : copyV P st td d s = some ways) :
    ∃ u st', ways = [(u, st')] ∧ Gives P e S w0 st w (Builtin.copy_ #[td, ts] ty #[d.den e, s.den e]) u st' := by
  unfold copyV at hq
  split at hq
  · rename_i el la lb hu ha hb
    split at hq
    · rename_i z hz
      split at hq
      · rename_i new hf
        split at hq
        · rename_i h1
          have hf' := firstV_ok (P := P) r hf
          have hmin : Nat.min lb la = minN la lb := by
            show (if lb ≤ la then lb else la) = _
            unfold minN
            cases hc : Nat.ble lb la
            · have : ¬ lb ≤ la := fun hh => by rw [Nat.ble_eq_true_of_le hh] at hc; cases hc
              rw [if_neg this]
            · rw [if_pos (Nat.le_of_ble_eq_true hc)]
          have run : ∀ {base : Option Addr} {cap : Nat} {w' : World}, (match base with | some a => storeCells a (V.denL e new) | none => pure ()).run P w = .ok () w' →
              (Builtin.copy_ #[td, ts] ty #[.slice base la cap, s.den e]).run P w = .ok (goInt (minN la lb)) w' := by
            intro base cap w' hst
            cases base with
            | none =>
              simp only [Sem.run_pure, Result.ok.injEq, true_and] at hst
              subst hst
              simp only [Builtin.copy_, List.getElem?_toArray, List.getElem?_cons_zero, List.getElem?_cons_succ, Sem.run_bind, run_underlying hu, Result.andThen_ok, lenOfV_ok hb, sizeT_run hz, hmin, hf'.1, Sem.run_pure]
            | some x =>
              simp only at hst
              simp only [Builtin.copy_, List.getElem?_toArray, List.getElem?_cons_zero, List.getElem?_cons_succ, Sem.run_bind, run_underlying hu, Result.andThen_ok, lenOfV_ok hb, sizeT_run hz, hmin, hf'.1, Sem.run_pure, List.toList_toArray, hst]
          split at hq
          · cases hq
            simp only [lenOfV, Option.some.injEq] at ha
            subst ha
            refine ⟨_, _, rfl, e, w, ?_, .refl r hh, trivial⟩
            have := run (base := none) (cap := 0) (w' := w) rfl
            have e0 : minN 0 lb = 0 := by
              unfold minN
              cases hc : Nat.ble lb 0
              · rfl
              · have := Nat.le_of_ble_eq_true hc; simp only; omega
            rw [e0] at this
            exact this
          · rename_i i off n cap
            simp only [lenOfV, Option.some.injEq] at ha
            subst ha
            split at hq
            · rename_i l t hb'
              split at hq
              · rename_i hfit
                cases hq
                obtain ⟨w', hrun, haf⟩ := storeCells_ok (P := P) r hh (i := i) (m := new) (off := off) hf'.2 h1 hb' (.inl ⟨l, t, rfl, Nat.le_of_ble_eq_true hfit, rfl⟩)
                exact ⟨_, _, rfl, e, w', run (base := some ⟨e.blk i, off, none⟩) (cap := cap) hrun, haf, trivial⟩
              · cases hq
            · cases hq
          · rename_i i off eoff n
            simp only [lenOfV, Option.some.injEq] at ha
            subst ha
            split at hq
            · rename_i l t z' hb'
              split at hq
              · rename_i hfit
                cases hq
                obtain ⟨w', hrun, haf⟩ := storeCells_ok (P := P) r hh (i := i) (m := new) (off := off) hf'.2 h1 hb' (.inr ⟨l, t, z', rfl, Nat.le_of_ble_eq_true hfit, rfl⟩)
                exact ⟨_, _, rfl, e, w', run (base := some ⟨e.blk i, off, none⟩) (cap := e.cap i - eoff) hrun, haf, trivial⟩
              · cases hq
            · cases hq
          · cases hq
        · cases hq
      · cases hq
    · cases hq
  · cases hq

theorem appendV_ok (r : Rep e S w0 st.hp w) (hh : Holds e.int st.pc) {ts tx ty : TypeId} {s x : V} {ways : List (V × St)} (hs : V.ok st.hp s) (hq : appendV P st ts tx s x = some ways) :
    ∃ u st', ways = [(u, st')] ∧ Gives P e S w0 st w (Builtin.append_ #[ts, tx] ty #[s.den e, x.den e]) u st' := by
  unfold appendV at hq
  split at hq
  · rename_i el dx hts htx
    split at hq
    · rename_i hx
      split at hq
      · rename_i it z n hi hz hn
        split at hq
        · rename_i hc
          rw [Bool.and_eq_true, Bool.and_eq_true] at hc
          have c1 := beq_true hc.1
          have c2 := Nat.le_of_ble_eq_true hc.2.1
          have c3 := Nat.le_of_ble_eq_true hc.2.2
          split at hq
          · rename_i new hf
            split at hq
            · rename_i h1
              exact appendTo_ok r hh hts htx hx hi hz c1 c2 hn c3 hf (firstV_length hf) h1 hs hq
            · cases hq
          · cases hq
        · cases hq
      · cases hq
    · cases hq
  · cases hq
end
end Go.Proofs.YtffhbmkpcenkoaaDoor.Sx
