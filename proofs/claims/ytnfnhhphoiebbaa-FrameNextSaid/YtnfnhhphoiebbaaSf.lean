/- Read-only operations do what the reader says: operands, loads, comparisons, arithmetic. -/
import Derived.Test.YtnfnhhphoiebbaaSe
set_option linter.unusedVariables false
set_option linter.unusedSimpArgs false
namespace Go.Proofs.Ytnfnhhphoiebbaa.Sx
open Go

theorem ofV1_ok {z : Value} {u : V} (h : ofV1 z = some u) : (∀ e, u.den e = z) ∧ ∀ t, V.ok t u := by
  unfold ofV1 at h
  split at h <;> first
    | cases h; done
    | (cases h; refine ⟨fun e => ?_, fun _ => trivial⟩; first | rfl | skip)
  · rename_i b
    cases b <;> rfl
  · rename_i s
    simp only [V.den, List.map_map]
    congr 1
    have : (UInt8.ofNat ∘ UInt8.toNat) = id := by funext x; simp
    rw [this]; simp
theorem ofVL_ok : ∀ {l : List Value} {m : List V}, ofVL l = some m → (∀ e, V.denL e m = l) ∧ ∀ t, V.okL t m
  | [], m, h => by cases h; exact ⟨fun _ => rfl, fun _ => trivial⟩
  | v :: l, m, h => by
    simp only [ofVL] at h
    split at h
    · rename_i u k h1 h2
      cases h
      have a := ofV1_ok h1
      have b := ofVL_ok h2
      exact ⟨fun e => by simp only [V.denL, a.1, b.1], fun t => ⟨a.2 t, b.2 t⟩⟩
    · cases h
theorem ofV_ok {z : Value} {u : V} (h : ofV z = some u) : (∀ e, u.den e = z) ∧ ∀ t, V.ok t u := by
  unfold ofV at h
  split at h
  · rename_i cs
    split at h
    · rename_i l hl
      cases h
      have a := ofVL_ok hl
      exact ⟨fun e => by simp only [V.den, a.1], a.2⟩
    · cases h
  · rename_i cs
    split at h
    · rename_i hl
      cases h
      refine ⟨fun e => ?_, fun _ => trivial⟩
      have : cs = #[] := by simpa using hl
      rw [this]; rfl
    · cases h
  · exact ofV1_ok h

theorem ofV1_any {z : Value} {u : V} (h : ofV1 z = some u) : u.isAny = false := by
  unfold ofV1 at h
  split at h <;> first | (cases h; rfl) | (cases h)
theorem ofV_any {z : Value} {u : V} (h : ofV z = some u) : u.isAny = false := by
  unfold ofV at h
  split at h
  · split at h
    · cases h; rfl
    · cases h
  · split at h
    · cases h; rfl
    · cases h
  · exact ofV1_any h
theorem allOne_any {v : V} (h : v.cellsOf.all V.one = true) : v.isAny = false := by
  cases v <;> first | rfl | (simp [V.cellsOf, V.one] at h)
theorem cellsOf_den (e : Env) {v : V} (h : v.isAny = false) : (v.den e).cells = (V.denL e v.cellsOf).toArray := by
  cases v <;> (try simp [V.isAny] at h) <;> simp [V.den, V.cellsOf, V.denL, Value.cells, undef]
  rename_i i
  cases e.val i <;> rfl
theorem one_den (e : Env) {v : V} (h : v.one = true) : (v.den e).oneCell' = true := by
  cases v <;> simp [V.one] at h <;> try rfl
  rename_i i
  simp only [V.den]
  cases e.val i <;> rfl
theorem cellsOf_ok {t : T} {v : V} (h : V.ok t v) : V.okL t v.cellsOf := by
  cases v <;> first | exact h | exact ⟨h, trivial⟩

/-- Package-level variables lie where the reader takes them. -/
def GOk (glob : Nat → Option Nat) (e : Env) (h : T) : Prop := ∀ g i, glob g = some i → h.has i ∧ e.blk i = g
theorem GOk.later {glob : Nat → Option Nat} {e e' : Env} {h h' : T} (g : GOk glob e h) (k : Later e e' h h') : GOk glob e' h' :=
  fun x i hi => ⟨k.has i (g x i hi).1, (k.blk i (g x i hi).1).trans (g x i hi).2⟩

/-- A frame's temporaries are what the reader takes them for. -/
structure Tm (e : Env) (h : T) (tm : List V) (a : Act) : Prop where
  tmps : a.tmps = (V.denL e tm).toArray
  ok : V.okL h tm
theorem Tm.later {e e' : Env} {h h' : T} {tm : List V} {a : Act} (t : Tm e h tm a) (k : Later e e' h h') : Tm e' h' tm a :=
  ⟨by rw [t.tmps, V.denL_later k t.ok], V.okL_later k.has t.ok⟩

section
variable {P : Program} {glob : Nat → Option Nat} {e : Env} {S : Nat → Prop} {w0 w : World} {st : St} {h : T} {tm : List V} {a : Act}

theorem getD_ok (ht : V.okL h tm) (i : Nat) : V.ok h (tm.getD i .und) := by
  rw [List.getD_eq_getElem?_getD]
  cases hi : tm[i]? with
  | none => trivial
  | some v => exact okL_iff.1 ht v (List.mem_of_getElem? hi)
theorem opd_ok (t : Tm e h tm a) (g : GOk glob e h) {x : Operand} {v : V} (hx : opd glob tm x = some v) : a.eval x = v.den e ∧ V.ok h v := by
  cases x with
  | tmp i =>
    have hv : tm.getD i .und = v := by
      simp only [opd, tget_eq] at hx
      split at hx
      · cases hx
      · cases hx
      · exact Option.some.inj hx
    subst hv
    refine ⟨?_, getD_ok t.ok i⟩
    rw [← denL_getD]
    simp [Act.eval, t.tmps]
  | const z => have := ofV_ok hx; exact ⟨(this.1 e).symm, this.2 h⟩
  | global i =>
    simp only [opd, tget_eq] at hx
    split at hx
    · rename_i j hj
      cases hx
      exact ⟨by simp [Act.eval, V.den, (g i j hj).2], (g i j hj).1⟩
    · cases hx
  | func f => simp only [opd, tget_eq, Option.some.injEq] at hx; subst hx; exact ⟨rfl, trivial, trivial⟩
theorem opd_any {x : Operand} {v : V} (hx : opd glob tm x = some v) : v.isAny = false := by
  cases x with
  | tmp i =>
    simp only [opd, tget_eq] at hx
    split at hx
    · cases hx
    · cases hx
    · rename_i hne hne2
      have := Option.some.inj hx
      subst this
      revert hne hne2
      cases tm.getD i .und <;> intro hne hne2 <;> first | rfl | exact (hne _ rfl).elim | exact (hne2 _ _ _ rfl).elim
  | const z => exact ofV_any hx
  | global i =>
    simp only [opd, tget_eq] at hx
    split at hx
    · cases hx; rfl
    · cases hx
  | func f => simp only [opd, tget_eq, Option.some.injEq] at hx; subst hx; rfl
theorem opds_ok (t : Tm e h tm a) (g : GOk glob e h) : ∀ {xs : List Operand} {l : List V}, opds glob tm xs = some l → xs.map a.eval = V.denL e l ∧ V.okL h l
  | [], l, hx => by cases hx; exact ⟨rfl, trivial⟩
  | x :: xs, l, hx => by
    simp only [opds] at hx
    split at hx
    · rename_i v m h1 h2
      cases hx
      have a1 := opd_ok t g h1
      have a2 := opds_ok t g h2
      exact ⟨by simp only [List.map_cons, V.denL, a1.1, a2.1], a1.2, a2.2⟩
    · cases hx

theorem aggType_run {t : TypeId} {b : Bool} (hb : aggType P t = some b) (w : World) : (isAgg t).run P w = .ok b w := by
  unfold aggType at hb
  unfold isAgg
  cases hu : P.underlying t with
  | none => rw [hu] at hb; cases hb
  | some d =>
    rw [hu] at hb
    rw [Sem.run_bind, run_underlying hu w]
    cases d <;> simp at hb <;> subst hb <;> rfl
theorem sizeT_run {t : TypeId} {n : Nat} (hn : sizeT P t = some n) (w : World) : (sizeOf t).run P w = .ok n w := by
  unfold sizeT at hn
  split at hn
  · rename_i i hi; cases hn; simp [sizeOf, typeInfo, hi]
  · cases hn
theorem sizeT_info {t : TypeId} {n : Nat} (hn : sizeT P t = some n) : ∃ i, P.info? t = some i ∧ i.size = n := by
  unfold sizeT at hn
  split at hn
  · rename_i i hi; cases hn; exact ⟨i, hi, rfl⟩
  · cases hn

/-- Cells that the reader knows of a block. -/
theorem cellsAt_ok (r : Rep e S w0 st.hp w) {i : Nat} {l : List V} (hl : cellsAt st i = some l) :
    (∀ j v, (V.denL e l)[j]? = some v → w.cell? ⟨e.blk i, j, none⟩ = some v) ∧ V.okL st.hp l ∧ st.hp.has i := by
  have of : ∀ {more : List Value} {t : TypeId}, w.heap[e.blk i]? = some (.cells (V.denL e l ++ more).toArray t (0, 0)) → ∀ j v, (V.denL e l)[j]? = some v → w.cell? ⟨e.blk i, j, none⟩ = some v := fun {more t} h1 j v hv => by
    rw [cell_of_row w _ j _ t (0, 0) h1]
    simp only [List.getElem?_toArray]
    rw [List.getElem?_append_left (List.getElem?_eq_some_iff.1 hv).1]
    exact hv
  unfold cellsAt at hl
  split at hl
  · rename_i m t hm
    cases hl
    exact ⟨of (more := []) (t := t) (by rw [List.append_nil]; exact r.blk i _ hm), r.okb i _ hm, by unfold T.has; rw [hm]; simp⟩
  · rename_i m t z hm
    cases hl
    obtain ⟨more, h1, _⟩ := r.blk i _ hm
    exact ⟨of h1, r.okb i _ hm, by unfold T.has; rw [hm]; simp⟩
  · rename_i m hm
    cases hl
    obtain ⟨cs, t, f, h1, h2⟩ := r.blk i _ hm
    exact ⟨fun j v hv => by rw [cell_of_row w _ j cs t f h1]; exact h2 j v hv, r.okb i _ hm, by unfold T.has; rw [hm]; simp⟩
  · cases hl
theorem cell_ok (r : Rep e S w0 st.hp w) {i : Nat} {l : List V} (hl : cellsAt st i = some l) {j : Nat} {v : Value} (hv : (V.denL e l)[j]? = some v) :
    w.cell? ⟨e.blk i, j, none⟩ = some v := (cellsAt_ok r hl).1 j v hv
theorem takeAt_ok {l m : List V} {off n : Nat} (hm : takeAt l off n = some m) : m.length = n ∧ m = (l.drop off).take n ∧ ∀ t, V.okL t l → V.okL t m := by
  unfold takeAt at hm
  rw [lenLe_eq, ttake_eq, tdrop_eq] at hm
  split at hm
  · rename_i hb
    have hb := Nat.le_of_ble_eq_true hb
    cases hm
    refine ⟨by simp; omega, rfl, fun t ht => okL_iff.2 fun v hv => okL_iff.1 ht v (List.mem_of_mem_drop (List.mem_of_mem_take hv))⟩
  · cases hm
theorem takeAt_get {l m : List V} {off n : Nat} (hm : takeAt l off n = some m) (e : Env) {j : Nat} {v : Value} (hv : (V.denL e m)[j]? = some v) : (V.denL e l)[off + j]? = some v := by
  obtain ⟨h1, h2, _⟩ := takeAt_ok hm
  have hj : j < m.length := by have := (List.getElem?_eq_some_iff.1 hv).1; rwa [denL_length] at this
  rw [h2, denL_take, denL_drop, List.getElem?_take_of_lt (by omega), List.getElem?_drop] at hv
  exact hv
theorem run_loadCells_at (r : Rep e S w0 st.hp w) {i : Nat} {l : List V} (hl : cellsAt st i = some l) {off n : Nat} {m : List V} (hm : takeAt l off n = some m) :
    (loadCells ⟨e.blk i, off, none⟩ n).run P w = .ok (V.denL e m).toArray w := by
  have h1 := (takeAt_ok hm).1
  have := run_loadCells_list (P := P) w ⟨e.blk i, off, none⟩ (V.denL e m) (fun j v hv => by
    have hadd : (⟨e.blk i, off, none⟩ : Addr).add j = ⟨e.blk i, off + j, none⟩ := by unfold Addr.add; split <;> simp_all
    rw [hadd]
    exact cell_ok r hl (takeAt_get hm e hv))
  rw [denL_length, h1] at this
  exact this
/-! Rows of numbers that stand open -/
theorem inRow_ok {pc : Pc} (hh : Holds e.int pc) {ix len : N} (h : inRow pc ix len = true) : ix.den e.int < len.den e.int ∧ 0 ≤ ix.den e.int := by
  unfold inRow at h
  split at h
  · rename_i h1 h2
    have a1 := dec_ok hh h1
    have a2 := dec_ok hh h2
    rw [mkLt_den, bI_ne, ilt_iff] at a1 a2
    simp only [N.den, true_iff, Bool.false_eq_true, false_iff] at a1 a2
    omega
  · cases h
def rowVal (e : Env) (b s r : Nat) (k : Option IntKind) (j : Nat) : Value := match k with
  | some k => .int k (max (kLo k) (min (kHi k) (e.int (b + j + s * r))))
  | none => .bool (match ieq (max 0 (min 1 (e.int (b + j + s * r)))) 0 with | true => false | false => true)
theorem rowCell_den (b s : Nat) (ix : N) (k : Option IntKind) (j : Nat) : (rowCell b s ix k j).den e = rowVal e b s (ix.den e.int).toNat k j := by
  cases k <;> rfl
theorem rowCells_get (b s : Nat) (ix : N) : ∀ (ks : List (Option IntKind)) (j i : Nat) (v : Value), (V.denL e (rowCells b s ix ks j))[i]? = some v → ∃ k, ks[i]? = some k ∧ v = rowVal e b s (ix.den e.int).toNat k (j + i)
  | [], j, i, v, h => by simp [rowCells, V.denL] at h
  | k :: ks, j, 0, v, h => by
    simp only [rowCells, V.denL, List.getElem?_cons_zero, Option.some.injEq] at h
    exact ⟨k, rfl, by rw [← h, rowCell_den]; rfl⟩
  | k :: ks, j, i + 1, v, h => by
    simp only [rowCells, V.denL, List.getElem?_cons_succ] at h
    obtain ⟨k', h1, h2⟩ := rowCells_get b s ix ks (j + 1) i v h
    exact ⟨k', by simpa using h1, by rw [h2]; congr 1; omega⟩
theorem rowCells_len (b s : Nat) (ix : N) : ∀ (ks : List (Option IntKind)) (j : Nat), (rowCells b s ix ks j).length = ks.length
  | [], _ => rfl
  | k :: ks, j => by simp [rowCells, rowCells_len b s ix ks (j + 1)]
theorem rowCells_ok (h : T) (b s : Nat) (ix : N) : ∀ (ks : List (Option IntKind)) (j : Nat), V.okL h (rowCells b s ix ks j)
  | [], _ => trivial
  | k :: ks, j => ⟨by cases k <;> trivial, rowCells_ok h b s ix ks (j + 1)⟩
theorem row_cell (r : Rep e S w0 st.hp w) {i b s : Nat} {ks : List (Option IntKind)} {len : N} (hb : st.hp.get i = some (.row b s ks len)) {x : Nat} (hx : (x : Int) < len.den e.int) {j : Nat} {k : Option IntKind} (hk : ks[j]? = some k) :
    w.cell? ((e.bas i).add (x * ks.length + j)) = some (rowVal e b s x k j) := by
  have := (r.blk i _ hb).2 x j k hx hk
  obtain ⟨cs, t, f, h2, h3, h4, h5⟩ := this
  generalize e.bas i = a at *
  obtain ⟨ab, ao, asp⟩ := a
  simp only at h2 h3 h5
  subst h2 h3
  have hadd : (⟨e.blk i, ao, none⟩ : Addr).add (x * ks.length + j) = ⟨e.blk i, ao + (x * ks.length + j), none⟩ := by unfold Addr.add; split <;> simp_all
  rw [hadd, cell_of_row w _ _ cs t f h4, h5]
  cases k <;> rfl
theorem add_add' (a : Addr) (m n : Nat) (h : a.spot = none) : (a.add m).add n = a.add (m + n) := by
  obtain ⟨x, y, z⟩ := a
  simp only at h
  subst h
  unfold Addr.add
  by_cases hm : m = 0 <;> by_cases hn : n = 0 <;> simp [hm, hn, Nat.add_assoc]
theorem row_spot (r : Rep e S w0 st.hp w) {i b s : Nat} {ks : List (Option IntKind)} {len : N} (hb : st.hp.get i = some (.row b s ks len)) {x : Nat} (hx : (x : Int) < len.den e.int) {j : Nat} {k : Option IntKind} (hk : ks[j]? = some k) :
    (e.bas i).spot = none := by
  obtain ⟨cs, t, f, h2, h3, h4, h5⟩ := (r.blk i _ hb).2 x j k hx hk
  exact h3
theorem loadV_ok (r : Rep e S w0 st.hp w) (hh : Holds e.int st.pc) {t : TypeId} {v u : V} (hl : loadV P st t v = .ok u) : (Instr.loadAt t (v.den e)).run P w = .ok (u.den e) w ∧ V.ok st.hp u := by
  unfold loadV at hl
  split at hl
  · rename_i i off
    split at hl
    · rename_i l hc ha
      split at hl
      · rename_i n hn
        split at hl
        · rename_i m hm
          cases hl
          refine ⟨?_, (takeAt_ok hm).2.2 _ (cellsAt_ok r hc).2.1⟩
          simp [Instr.loadAt, Instr.sureAddr, V.den, loadVar, aggType_run ha, sizeT_run hn, run_loadCells_at r hc hm]
        · cases hl
      · cases hl
    · rename_i l hc ha
      split at hl
      · rename_i x hx
        rw [tat_eq] at hx
        cases hl
        refine ⟨?_, okL_iff.1 (cellsAt_ok r hc).2.1 _ (List.mem_of_getElem? hx)⟩
        have := cell_ok r hc (j := off) (v := u.den e) (by rw [denL_get, hx]; rfl)
        simp [Instr.loadAt, Instr.sureAddr, V.den, loadVar, aggType_run ha, this]
      · cases hl
    · cases hl
  · rename_i i ix z off
    split at hl
    · rename_i b s ks len ag hb ha
      split at hl
      · rename_i hc
        rw [Bool.and_eq_true] at hc
        obtain ⟨hlt, h0⟩ := inRow_ok hh hc.1
        have hz := Nat.eq_of_beq_eq_true hc.2
        subst hz
        have hx : (((ix.den e.int).toNat : Nat) : Int) < len.den e.int := by omega
        split at hl
        · split at hl
          · rename_i n hn
            split at hl
            · rename_i hle
              have hle := Nat.le_of_ble_eq_true hle
              cases hl
              refine ⟨?_, rowCells_ok _ _ _ _ _ _⟩
              have hlen : (rowCells b s ix ((ks.drop off).take n) off).length = n := by rw [rowCells_len]; simp; omega
              have := run_loadCells_list (P := P) w ((e.bas i).add ((ix.den e.int).toNat * ks.length + off)) (V.denL e (rowCells b s ix ((ks.drop off).take n) off)) (fun j v hv => by
                obtain ⟨k, h1, h2⟩ := rowCells_get b s ix _ off j v hv
                have h1' : ks[off + j]? = some k := by
                  have hj : j < n := by
                    rcases Nat.lt_or_ge j n with hj | hj
                    · exact hj
                    · rw [List.getElem?_eq_none (by simp; omega)] at h1; cases h1
                  rwa [List.getElem?_take_of_lt hj, List.getElem?_drop] at h1
                rw [add_add' _ _ _ (row_spot r hb hx h1'), Nat.add_assoc, row_cell r hb hx h1', h2])
              rw [denL_length, hlen] at this
              simp [Instr.loadAt, Instr.sureAddr, V.den, loadVar, aggType_run ha, sizeT_run hn, this]
            · cases hl
          · cases hl
        · split at hl
          · rename_i k hk
            cases hl
            refine ⟨?_, by cases k <;> trivial⟩
            have := row_cell r hb hx hk
            simp [Instr.loadAt, Instr.sureAddr, V.den, loadVar, aggType_run ha, this, rowCell_den]
          · cases hl
      · cases hl
    · cases hl
  · cases hl
theorem partV_ok {t : TypeId} {l : List V} {off : Nat} {u : V} (ho : V.okL h l) (hl : partV P t l off = .ok u) (w : World) : (part t (V.denL e l).toArray off).run P w = .ok (u.den e) w ∧ V.ok h u := by
  unfold partV at hl
  split at hl
  · rename_i ha
    split at hl
    · rename_i n hn
      split at hl
      · rename_i m hm
        cases hl
        refine ⟨?_, (takeAt_ok hm).2.2 _ ho⟩
        simp only [part, Sem.run_bind, aggType_run ha, Result.andThen_ok, if_true, sizeT_run hn, Sem.run_pure, V.den]
        congr 3
        rw [(takeAt_ok hm).2.1, denL_take, denL_drop]
        simp
      · cases hl
    · cases hl
  · rename_i ha
    split at hl
    · rename_i x hx
      rw [tat_eq] at hx
      cases hl
      refine ⟨?_, okL_iff.1 ho _ (List.mem_of_getElem? hx)⟩
      have : (V.denL e l)[off]? = some (u.den e) := by rw [denL_get, hx]; rfl
      simp [part, aggType_run ha, this]
    · cases hl
  · cases hl

/-- A truth as a Bool. -/
def tr (n : Int) : Bool := match ieq n 0 with | true => false | false => true
theorem tr_bI (b : Bool) : tr (bI b) = b := by cases b <;> rfl
theorem tr_iff (n : Int) : tr n = true ↔ n ≠ 0 := by
  unfold tr
  cases h : ieq n 0
  · rw [ieq_false] at h; simp [h]
  · rw [ieq_iff] at h; simp [h]
theorem tr_not (n : Int) : tr (bI (ieq n 0)) = !tr n := by
  unfold tr
  cases h : ieq n 0 <;> rfl
theorem den_b (e : Env) (x : N) : (V.b x).den e = .bool (tr (x.den e.int)) := rfl
theorem dec_tr {pc : Pc} (hh : Holds e.int pc) {c : N} {t : Bool} (hd : dec pc c = some t) : tr (c.den e.int) = t := by
  have := dec_ok hh hd
  rw [← tr_iff] at this
  cases t <;> simp_all

theorem bytes_same {l m : List Nat} (hl : natsSame l m = true) (e : Env) : (V.s l).den e = (V.s m).den e := by rw [natsSame_eq hl]
end
end Go.Proofs.Ytnfnhhphoiebbaa.Sx
