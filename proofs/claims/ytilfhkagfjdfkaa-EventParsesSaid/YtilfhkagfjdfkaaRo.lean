/- Arguments that came in, opened: rows of structs of numbers, truths and strings; structs of them; that they lie as they lay. -/
import Derived.ChangeMaps5
import Derived.ChangeAt
import Derived.OpenShut
import Derived.WideKeyArr2
import Derived.Below
import Derived.Carry
set_option linter.unusedVariables false
set_option linter.unusedSimpArgs false
namespace Go.Proofs.Ytilfhkagfjdfkaa.Ro
open Go Go.ChangeShapes Go.WideShapes Go.ChangeAt Go.RowKit
noncomputable section
/-- The kind of a cell. -/
inductive Kd where
  | num (k : IntKind)
  | boo
  | str
def Kd.same : Kd → Kd → Bool
  | .num a, .num b => decide (a = b)
  | .boo, .boo => true
  | .str, .str => true
  | _, _ => false
theorem Kd.same_eq : ∀ {a b : Kd}, a.same b = true → a = b
  | .num a, .num b, h => by rw [of_decide_eq_true h]
  | .boo, .boo, _ => rfl
  | .str, .str, _ => rfl
  | .num _, .boo, h => by cases h
  | .num _, .str, h => by cases h
  | .boo, .num _, h => by cases h
  | .boo, .str, h => by cases h
  | .str, .num _, h => by cases h
  | .str, .boo, h => by cases h
def kindAt (P : Program) : Nat → TypeId → Nat → Option Kd
  | 0, _, _ => none
  | d + 1, t, i => match P.underlying t with
    | some (.int k) => match Nat.beq i 0 with | true => some (.num k) | false => none
    | some .bool => match Nat.beq i 0 with | true => some .boo | false => none
    | some .string => match Nat.beq i 0 with | true => some .str | false => none
    | some (.struct fs) => fs.toList.findSome? fun f => match Nat.ble f.offset i && Nat.blt i (f.offset + P.cellsOf f.type) with
      | true => kindAt P d f.type (i - f.offset)
      | false => none
    | some (.array n e) => match Nat.blt 0 (P.cellsOf e) && Nat.blt (i / P.cellsOf e) n with
      | true => kindAt P d e (i % P.cellsOf e)
      | false => none
    | _ => none
def Leaf : Kd → Value → Prop
  | .num k, v => ∃ z, v = .int k z ∧ (Lit.int k z).wf = true
  | .boo, v => ∃ b, v = .bool b
  | .str, v => ∃ s, v = .string s ∧ s.size ≤ maxLen
def Leaves : List Kd → List Value → Prop
  | [], l => l = []
  | k :: ks, l => ∃ v r, l = v :: r ∧ Leaf k v ∧ Leaves ks r
theorem take_drop_get {α : Type} {l : List α} {a n i : Nat} {v : α} (h : ((l.drop a).take n)[i]? = some v) : l[a + i]? = some v := by
  rw [List.getElem?_take, List.getElem?_drop] at h
  split at h
  · exact h
  · cases h
theorem kindAt_ok {H : Type} {enc : TypeId × Value → H} {P : Program} {W : World} {base : Nat} {sp : Nat → Bool} {held : Bool} :
    ∀ (d : Nat) {t : TypeId} {i : Nat} {k : Kd} {fuel : Nat} {cs : List Value} {x : DataW H × List MemPlace}, kindAt P d t i = some k → DataW.trod enc P W base sp held fuel t cs = some x → ∃ v, cs[i]? = some v ∧ Leaf k v
  | 0, _, _, _, _, _, _, hk, _ => by cases hk
  | d + 1, t, i, k, fuel, cs, x, hk, h => by
    simp only [kindAt] at hk
    split at hk
    · rename_i q hu
      split at hk
      · rename_i hi
        have hi := Nat.eq_of_beq_eq_true hi
        subst hi
        cases hk
        obtain ⟨z, rfl, _, w⟩ := DataW.trod_int hu h
        exact ⟨_, rfl, z, rfl, w⟩
      · cases hk
    · rename_i hu
      split at hk
      · rename_i hi
        have hi := Nat.eq_of_beq_eq_true hi
        subst hi
        cases hk
        obtain ⟨b, rfl, _⟩ := DataW.trod_bool hu h
        exact ⟨_, rfl, b, rfl⟩
      · cases hk
    · rename_i hu
      split at hk
      · rename_i hi
        have hi := Nat.eq_of_beq_eq_true hi
        subst hi
        cases hk
        obtain ⟨s, rfl, _, hs⟩ := DataW.trod_string hu h
        exact ⟨_, rfl, s, rfl, hs⟩
      · cases hk
    · rename_i fs hu
      obtain ⟨xs, n, rfl, _, hlen, hn, hel⟩ := DataW.trod_struct hu h
      obtain ⟨f, hf, hk⟩ := List.exists_of_findSome?_eq_some hk
      split at hk
      · rename_i hc
        rw [Bool.and_eq_true] at hc
        have h1 := Nat.le_of_ble_eq_true hc.1
        obtain ⟨j, hj⟩ := List.getElem?_of_mem hf
        have hj' : fs[j]? = some f := by rw [← Array.getElem?_toList]; exact hj
        have h2 := hel j f hj'
        have hjl : j < xs.length := by
          have := (List.getElem?_eq_some_iff.1 hj).1
          rw [hn]; simpa using this
        rw [List.getElem?_eq_getElem hjl] at h2
        obtain ⟨v, hv, hl⟩ := kindAt_ok d hk h2
        refine ⟨v, ?_, hl⟩
        have := take_drop_get hv
        rwa [show f.offset + (i - f.offset) = i by omega] at this
      · cases hk
    · rename_i n e hu
      obtain ⟨xs, m, rfl, _, hlen, hn, hel⟩ := DataW.trod_array hu h
      split at hk
      · rename_i hc
        rw [Bool.and_eq_true] at hc
        have h1 : 0 < P.cellsOf e := by simpa [Nat.blt_eq] using hc.1
        have h2 : i / P.cellsOf e < n := by simpa [Nat.blt_eq] using hc.2
        have h3 := hel _ h2
        rw [List.getElem?_eq_getElem (show i / P.cellsOf e < xs.length by omega)] at h3
        obtain ⟨v, hv, hl⟩ := kindAt_ok d hk h3
        refine ⟨v, ?_, hl⟩
        have := take_drop_get hv
        rwa [Nat.mul_comm, Nat.div_add_mod] at this
      · cases hk
    · cases hk
def kindsOk (P : Program) (t : TypeId) : List Kd → Nat → Bool
  | [], i => Nat.beq (P.cellsOf t) i
  | k :: ks, i => (match kindAt P 6 t i with
    | some a => a.same k
    | none => false) && kindsOk P t ks (i + 1)
theorem leaves_of {H : Type} {enc : TypeId × Value → H} {P : Program} {W : World} {base : Nat} {sp : Nat → Bool} {held : Bool} {t : TypeId} {fuel : Nat} {cs : List Value} {x : DataW H × List MemPlace} (hlen : cs.length = P.cellsOf t)
    (h : DataW.trod enc P W base sp held fuel t cs = some x) : ∀ {ks : List Kd} {i : Nat}, kindsOk P t ks i = true → Leaves ks (cs.drop i)
  | [], i, hk => by
    have := Nat.eq_of_beq_eq_true hk
    show cs.drop i = []
    rw [List.drop_eq_nil_iff]; omega
  | k :: ks, i, hk => by
    simp only [kindsOk, Bool.and_eq_true] at hk
    have hk1 : kindAt P 6 t i = some k := by
      have h1 := hk.1
      split at h1
      · rename_i a he
        rw [he, Kd.same_eq h1]
      · cases h1
    obtain ⟨v, hv, hl⟩ := kindAt_ok 6 hk1 h
    have hi := (List.getElem?_eq_some_iff.1 hv).1
    have hd : cs.drop i = v :: cs.drop (i + 1) := by
      rw [List.drop_eq_getElem_cons hi]
      congr 1
      exact (List.getElem?_eq_some_iff.1 hv).2
    exact ⟨v, _, hd, hl, leaves_of hlen h hk.2⟩
theorem open_flat {H : Type} {enc : TypeId × Value → H} {P : Program} {W : World} {b0 base : Nat} {r : Reach} {sp : Nat → Bool} {held : Bool} {t : TypeId} {fs : Array Field} (hu : P.underlying t = some (.struct fs)) {ks : List Kd} (hk : kindsOk P t ks 0 = true)
    {v : Value} {d : DataW H} {p : List MemPlace} (hok : Value.okWide P W r b0 t v) (h : DataW.Trod enc P W base sp held t v d p) : ∃ l : List Value, v = .agg l.toArray ∧ Leaves ks l := by
  simp only [Value.okWide, hu] at hok
  obtain ⟨cs, rfl, h2, _⟩ := hok
  obtain ⟨fuel, hf⟩ := h
  have hcs : (Value.agg cs).cells.toList = cs.toList := rfl
  rw [hcs] at hf
  exact ⟨cs.toList, by simp, leaves_of (by simpa using h2) hf hk⟩
theorem add_add2 (a : Addr) (x y : Nat) : (a.add x).add y = a.add (x + y) := by
  obtain ⟨u, v, z⟩ := a
  unfold Addr.add
  by_cases hm : x = 0 <;> by_cases hn : y = 0 <;> cases z <;> simp [hm, hn, Nat.add_assoc]
theorem kindsOk_len {P : Program} {t : TypeId} : ∀ {ks : List Kd} {i : Nat}, kindsOk P t ks i = true → P.cellsOf t = i + ks.length
  | [], i, h => Nat.eq_of_beq_eq_true h
  | k :: ks, i, h => by
    simp only [kindsOk, Bool.and_eq_true] at h
    have := kindsOk_len h.2
    simp only [List.length_cons]; omega
theorem leaves_get : ∀ {ks : List Kd} {l : List Value}, Leaves ks l → ∀ {j : Nat} {k : Kd}, ks[j]? = some k → ∃ v, l[j]? = some v ∧ Leaf k v
  | [], _, _, j, k, h => by simp at h
  | q :: ks, l, hl, 0, k, h => by
    obtain ⟨v, r, rfl, h1, _⟩ := hl
    simp only [List.getElem?_cons_zero, Option.some.injEq] at h
    subst h
    exact ⟨v, rfl, h1⟩
  | q :: ks, l, hl, j + 1, k, h => by
    obtain ⟨v, r, rfl, _, h2⟩ := hl
    simp only [List.getElem?_cons_succ] at h ⊢
    exact leaves_get h2 h
theorem mapM_some_len {α β : Type} {f : α → Option β} : ∀ {l : List α} {m : List β}, l.mapM f = some m → m.length = l.length
  | [], m, h => by simp at h; subst h; rfl
  | a :: l, m, hm => by
    simp only [List.mapM_cons, Option.bind_eq_bind, Option.bind_eq_some_iff, Option.pure_def, Option.some.injEq] at hm
    obtain ⟨y, hy, r, hr, rfl⟩ := hm
    simp [mapM_some_len hr]
theorem mapM_some_get {α β : Type} {f : α → Option β} : ∀ {l : List α} {m : List β}, l.mapM f = some m → ∀ (i : Nat) (x : α), l[i]? = some x → ∃ y, f x = some y ∧ m[i]? = some y
  | [], _, _, i, x, h => by simp at h
  | a :: l, m, hm, i, x, h => by
    simp only [List.mapM_cons, Option.bind_eq_bind, Option.bind_eq_some_iff, Option.pure_def, Option.some.injEq] at hm
    obtain ⟨y, hy, r, hr, rfl⟩ := hm
    cases i with
    | zero => simp only [List.getElem?_cons_zero, Option.some.injEq] at h; subst h; exact ⟨y, hy, rfl⟩
    | succ i =>
      simp only [List.getElem?_cons_succ] at h ⊢
      exact mapM_some_get hr i x h
/-- A slice that came in, its elements being flat: nil, or cells of these kinds. -/
def IsRow (ks : List Kd) (w : World) (a : Option Addr) (len cap : Nat) : Prop :=
  (a = none ∧ len = 0 ∧ cap = 0) ∨ ∃ a', a = some a' ∧ len ≤ 9223372036854775807 ∧ ∀ r, r < len → ∀ (j : Nat) (k : Kd), ks[j]? = some k → ∃ v, w.cell? (a'.add (r * ks.length + j)) = some v ∧ Leaf k v
theorem open_rows {H : Type} {enc : TypeId × Value → H} {P : Program} {W : World} {base : Nat} {sp : Nat → Bool} {held : Bool} {t el : TypeId} (ht : P.underlying t = some (.slice el)) {ks : List Kd} (hk : kindsOk P el ks 0 = true)
    {a : Option Addr} {len cap : Nat} {d : DataW H} {p : List MemPlace} (h : DataW.Trod enc P W base sp held t (.slice a len cap) d p) : IsRow ks W a len cap := by
  obtain ⟨fuel, hf⟩ := h
  have hz := kindsOk_len hk
  rw [Nat.zero_add] at hz
  rcases DataW.trod_slice ht hf with ⟨hcs, _⟩ | ⟨a', len', cap', elems, rest, n, _, hcs, _, hb, hl, hm, hlen, hel, _, _⟩
  · simp [Value.cells] at hcs
    exact .inl hcs
  · simp [Value.cells] at hcs
    obtain ⟨rfl, rfl, rfl⟩ := hcs
    refine .inr ⟨a', rfl, Nat.le_trans hl (Nat.le_trans hm (by decide)), fun r hr j k hjk => ?_⟩
    have he := hel r hr
    rw [List.getElem?_eq_getElem (by omega)] at he
    obtain ⟨cs, hcs, htr⟩ := Option.bind_eq_some_iff.1 he
    have hcl : cs.length = P.cellsOf el ∧ ∀ i, i < P.cellsOf el → ∃ v, cs[i]? = some v ∧ W.cell? ((a'.add (r * P.cellsOf el)).add i) = some v := by
      unfold World.cells? at hcs
      split at hcs
      · have hlen2 : cs.length = P.cellsOf el := by
          exact mapM_some_len hcs |>.trans (by simp)
        refine ⟨hlen2, fun i hi => ?_⟩
        obtain ⟨y, h1, h2⟩ := mapM_some_get hcs i i (by simp [hi])
        exact ⟨y, h2, h1⟩
      · cases hcs
    have hlv := leaves_of hcl.1 htr hk
    rw [List.drop_zero] at hlv
    obtain ⟨v, hv, hleaf⟩ := leaves_get hlv hjk
    have hj : j < P.cellsOf el := by
      have := (List.getElem?_eq_some_iff.1 hv).1
      omega
    obtain ⟨v2, h1, h2⟩ := hcl.2 j hj
    rw [hv] at h1
    cases h1
    refine ⟨v, ?_, hleaf⟩
    rw [add_add2, hz] at h2
    exact h2

theorem wf_bd {k : IntKind} {z : Int} (h : (Lit.int k z).wf = true) : k.min ≤ z ∧ z ≤ k.max := by
  simp only [Lit.wf, Bool.and_eq_true, decide_eq_true_eq] at h
  exact h
theorem wf_u8 {z : Int} (h : (Lit.int .u8 z).wf = true) : ∃ n : Nat, z = n ∧ n < 256 := by
  have h := wf_bd h
  have h1 : (0 : Int) ≤ z := h.1
  have h2 : z ≤ 255 := h.2
  exact ⟨z.toNat, by omega, by omega⟩
theorem wf_u64 {z : Int} (h : (Lit.int .u64 z).wf = true) : ∃ n : Nat, z = n ∧ n < 18446744073709551616 := by
  have h := wf_bd h
  have h1 : (0 : Int) ≤ z := h.1
  have h2 : z ≤ 18446744073709551615 := h.2
  exact ⟨z.toNat, by omega, by omega⟩
theorem wf_i64 {z : Int} (h : (Lit.int .i64 z).wf = true) : -9223372036854775808 ≤ z ∧ z ≤ 9223372036854775807 := wf_bd h
theorem leaves_mk : ∀ {ks : List Kd} {l : List Value}, l.length = ks.length → (∀ (j : Nat) (k : Kd), ks[j]? = some k → ∃ v, l[j]? = some v ∧ Leaf k v) → Leaves ks l
  | [], l, h, _ => List.eq_nil_of_length_eq_zero h
  | k :: ks, [], h, _ => by simp at h
  | k :: ks, v :: l, h, H => by
    obtain ⟨v', h1, h2⟩ := H 0 k rfl
    cases h1
    exact ⟨v, l, rfl, h2, leaves_mk (by simpa using h) fun j q hq => by
      obtain ⟨u, h3, h4⟩ := H (j + 1) q (by simpa using hq)
      exact ⟨u, by simpa using h3, h4⟩⟩
/-- A row's cells, element by element. -/
theorem rows_of {ks : List Kd} {W : World} {a : Option Addr} {len cap : Nat} (hk : 0 < ks.length) (h : IsRow ks W a len cap) : ∃ l : List (List Value), l.length = len ∧ ∀ (k : Nat) (cs : List Value), l[k]? = some cs → Leaves ks cs ∧ ∃ b off, a = some ⟨b, off, none⟩ ∧ b < W.heap.size ∧ ∀ (j : Nat) (v : Value), cs[j]? = some v → W.cell? ⟨b, off + ks.length * k + j, none⟩ = some v := by
  rcases h with ⟨rfl, rfl, rfl⟩ | ⟨a', rfl, _, hc⟩
  · exact ⟨[], rfl, fun k f hf => by simp at hf⟩
  · obtain ⟨b, off, spot⟩ := a'
    have hadd : ∀ j, (⟨b, off, none⟩ : Addr).add j = ⟨b, off + j, none⟩ := by
      intro j; unfold Addr.add; split <;> simp_all
    have hs : 0 < len → spot = none := fun h => by
      obtain ⟨v, h0, _⟩ := hc 0 h 0 _ (List.getElem?_eq_getElem hk)
      have := World.cell?_spot h0
      simpa [Addr.add] using this
    have each : ∀ r, ∃ cs : List Value, r < len → Leaves ks cs ∧ ∃ b' off', (⟨b, off, spot⟩ : Addr) = ⟨b', off', none⟩ ∧ b' < W.heap.size ∧ ∀ (j : Nat) (v : Value), cs[j]? = some v → W.cell? ⟨b', off' + ks.length * r + j, none⟩ = some v := by
      intro r
      by_cases hr : r < len
      · have hspot := hs (by omega)
        subst hspot
        have one : ∀ j, ∃ v : Value, j < ks.length → W.cell? ⟨b, off + ks.length * r + j, none⟩ = some v ∧ ∀ k, ks[j]? = some k → Leaf k v := fun j => by
          by_cases hj : j < ks.length
          · obtain ⟨v, h0, l0⟩ := hc r hr j _ (List.getElem?_eq_getElem hj)
            rw [hadd] at h0
            refine ⟨v, fun _ => ⟨?_, fun k hk => ?_⟩⟩
            · rw [Nat.add_assoc, Nat.mul_comm]; exact h0
            · rw [List.getElem?_eq_getElem hj] at hk; cases hk; exact l0
          · exact ⟨undef, fun h => absurd h hj⟩
        obtain ⟨g, hg⟩ := Classical.axiomOfChoice one
        refine ⟨(List.range ks.length).map g, fun _ => ⟨leaves_mk (by simp) fun j k hk => ?_, b, off, rfl, World.block_lt_of_cell? _ _ (hg 0 hk).1, fun j v hv => ?_⟩⟩
        · have hj := (List.getElem?_eq_some_iff.1 hk).1
          exact ⟨g j, by rw [List.getElem?_map, List.getElem?_range hj]; rfl, (hg j hj).2 k hk⟩
        · have hj : j < ks.length := by
            have := (List.getElem?_eq_some_iff.1 hv).1
            simpa using this
          rw [List.getElem?_map, List.getElem?_range hj] at hv
          cases hv
          exact (hg j hj).1
      · exact ⟨[], fun h => absurd h hr⟩
    obtain ⟨g, hg⟩ := Classical.axiomOfChoice each
    refine ⟨(List.range len).map g, by simp, fun k f hf => ?_⟩
    have hk : k < len := by
      have := (List.getElem?_eq_some_iff.1 hf).1
      simpa using this
    rw [List.getElem?_map, List.getElem?_range hk] at hf
    cases hf
    obtain ⟨hl, b', off', e, r⟩ := hg k hk
    exact ⟨hl, b', off', by rw [e], r⟩
/-- The arguments lie as they lay. -/
theorem trodAll_below {H : Type} {enc : TypeId × Value → H} {P : Program} (hl : laidOutB P = true) {W W' : World} (hb : Below W.heap.size W W') :
    ∀ {ts : List TypeId} {vs : List Value} {ds : List (DataW H)} {ps : List MemPlace}, (ts.all fun t => P.readableRec t && Nat.blt t P.types.size) = true → DataW.TrodAll enc P W 0 (fun _ => true) true ts vs ds ps → DataW.TrodAll enc P W' 0 (fun b => decide (b < W.heap.size)) true ts vs ds ps
  | [], vs, ds, ps, _, h => by cases vs <;> cases ds <;> exact h
  | t :: ts, vs, ds, ps, hr, h => by
    obtain ⟨v, vs', d, ds', p, q, rfl, rfl, rfl, h1, h2⟩ := trodAll_cons h
    simp only [List.all_cons, Bool.and_eq_true, Nat.blt_eq] at hr
    have lt : ∀ x ∈ p, x.block < W.heap.size := by obtain ⟨m, hm⟩ := h1; exact DataW.trod_lt m _ _ _ hm
    exact trodAll_cons_mk (Below.trod hl hr.1.1 hr.1.2 h1 hb lt) (trodAll_below hl hb (List.all_eq_true.2 fun x hx => by
      have := List.all_eq_true.1 hr.2 x hx
      exact this) h2)
end
end Go.Proofs.Ytilfhkagfjdfkaa.Ro
