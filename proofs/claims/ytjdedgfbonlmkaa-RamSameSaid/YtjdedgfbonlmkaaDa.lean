/- The document's memory, as a list: what stands at an offset, what a byte that is written changes. -/
import Derived.Test.YtjdedgfbonlmkaaS
import Derived.Test.YtjdedgfbonlmkaaG
set_option linter.unusedVariables false
set_option linter.unusedSimpArgs false
namespace Go.Proofs.Ytjdedgfbonlmkaa
open Go.RowKit
abbrev Ent := Nat × UInt8
def dby : List Ent → Nat → UInt8
  | [], _ => 0
  | e :: r, i => if e.1 = i then e.2 else dby r i
def dset : List Ent → Nat → UInt8 → List Ent
  | [], i, v => [(i, v)]
  | e :: r, i, v => if e.1 = i then (i, v) :: r else e :: dset r i v
theorem dby_dset (i : Nat) (v : UInt8) (j : Nat) : ∀ L, dby (dset L i v) j = if i = j then v else dby L j
  | [] => by simp [dset, dby]
  | e :: r => by
    unfold dset
    by_cases h : e.1 = i
    · rw [if_pos h]
      show (if i = j then v else dby r j) = if i = j then v else (if e.1 = j then e.2 else dby r j)
      by_cases h2 : i = j
      · rw [if_pos h2, if_pos h2]
      · rw [if_neg h2, if_neg h2, if_neg (by omega)]
    · rw [if_neg h]
      show (if e.1 = j then e.2 else dby (dset r i v) j) = if i = j then v else (if e.1 = j then e.2 else dby r j)
      rw [dby_dset i v j r]
      by_cases h2 : e.1 = j
      · rw [if_pos h2, if_neg (by omega), if_pos h2]
      · rw [if_neg h2, if_neg h2]
theorem dby_none {i : Nat} : ∀ {L : List Ent}, (∀ e ∈ L, e.1 ≠ i) → dby L i = 0
  | [], _ => rfl
  | e :: r, h => by
    unfold dby
    rw [if_neg (h e List.mem_cons_self)]
    exact dby_none fun e he => h e (List.mem_cons_of_mem _ he)
theorem dset_new {i : Nat} {v : UInt8} : ∀ {L : List Ent}, (∀ e ∈ L, e.1 ≠ i) → dset L i v = L ++ [(i, v)]
  | [], _ => rfl
  | e :: r, h => by
    unfold dset
    rw [if_neg (h e List.mem_cons_self), dset_new fun e he => h e (List.mem_cons_of_mem _ he)]
    rfl
theorem dby_get {i : Nat} : ∀ {L : List Ent} {k : Nat} {e : Ent}, L[k]? = some e → e.1 = i → (∀ j f, j < k → L[j]? = some f → f.1 ≠ i) → dby L i = e.2
  | [], k, e, h, _, _ => by simp at h
  | f :: r, 0, e, h, he, _ => by
    simp at h
    subst h
    unfold dby
    rw [if_pos he]
  | f :: r, k + 1, e, h, he, hn => by
    unfold dby
    rw [if_neg (hn 0 f (by omega) rfl)]
    exact dby_get (k := k) (by simpa using h) he fun j g hj hg => hn (j + 1) g (by omega) (by simpa using hg)
theorem dset_get {i : Nat} {v : UInt8} : ∀ {L : List Ent} {k : Nat} {e : Ent}, L[k]? = some e → e.1 = i → (∀ j f, j < k → L[j]? = some f → f.1 ≠ i) → dset L i v = L.set k (i, v)
  | [], k, e, h, _, _ => by simp at h
  | f :: r, 0, e, h, he, _ => by
    simp at h
    subst h
    unfold dset
    rw [if_pos he]
    rfl
  | f :: r, k + 1, e, h, he, hn => by
    unfold dset
    rw [if_neg (hn 0 f (by omega) rfl), dset_get (k := k) (by simpa using h) he fun j g hj hg => hn (j + 1) g (by omega) (by simpa using hg)]
    rfl
theorem dset_keys {i : Nat} {v : UInt8} : ∀ L : List Ent, (i ∈ L.map (·.1) ∧ (dset L i v).map (·.1) = L.map (·.1)) ∨ (i ∉ L.map (·.1) ∧ (dset L i v).map (·.1) = L.map (·.1) ++ [i])
  | [] => by right; simp [dset]
  | e :: r => by
    unfold dset
    by_cases h : e.1 = i
    · left
      rw [if_pos h]
      simp [h]
    · rw [if_neg h]
      rcases dset_keys (i := i) (v := v) r with ⟨h1, h2⟩ | ⟨h1, h2⟩
      · left
        simp only [List.map_cons, List.mem_cons, h2]
        exact ⟨.inr h1, trivial⟩
      · right
        simp only [List.map_cons, List.mem_cons, h2, not_or, List.cons_append]
        exact ⟨⟨fun e => h e.symm, h1⟩, trivial⟩
theorem dset_mem {i : Nat} {v : UInt8} : ∀ {L : List Ent} {e : Ent}, e ∈ dset L i v → e.1 = i ∨ e ∈ L
  | [], e, h => by left; simp [dset] at h; rw [h]
  | f :: r, e, h => by
    unfold dset at h
    by_cases hf : f.1 = i
    · rw [if_pos hf] at h
      rcases List.mem_cons.1 h with rfl | h
      · exact .inl rfl
      · exact .inr (List.mem_cons_of_mem _ h)
    · rw [if_neg hf] at h
      rcases List.mem_cons.1 h with rfl | h
      · exact .inr List.mem_cons_self
      · exact (dset_mem h).imp id (List.mem_cons_of_mem _)
theorem dby_mem : ∀ {L : List Ent}, (L.map (·.1)).Nodup → ∀ {e : Ent}, e ∈ L → dby L e.1 = e.2
  | [], _, e, h => by simp at h
  | f :: r, hn, e, h => by
    rw [List.map_cons, List.nodup_cons] at hn
    unfold dby
    rcases List.mem_cons.1 h with rfl | h
    · rw [if_pos rfl]
    · rw [if_neg (fun he => hn.1 (by rw [he]; exact List.mem_map_of_mem h))]
      exact dby_mem hn.2 h
/-- A list that tells these bytes. -/
structure Md (L : List Ent) (l : List UInt8) : Prop where
  byte : ∀ i, i < l.length → l[i]? = some (dby L i)
  inn : ∀ e ∈ L, e.1 < l.length
  one : (L.map (·.1)).Nodup
theorem Md.nil (N : Nat) : Md [] (List.replicate N 0) := ⟨fun i hi => by simpa [List.getElem?_replicate, dby] using hi, fun e h => by simp at h, by simp⟩
theorem Md.set {L : List Ent} {l : List UInt8} (h : Md L l) {i : Nat} (hi : i < l.length) (v : UInt8) : Md (dset L i v) (l.set i v) := by
  refine ⟨fun j hj => ?_, fun e he => ?_, ?_⟩
  · rw [List.length_set] at hj
    rw [List.getElem?_set, dby_dset]
    by_cases hij : i = j
    · rw [if_pos hij, if_pos hij, if_pos hi]
    · rw [if_neg hij, if_neg hij]
      exact h.byte j hj
  · rw [List.length_set]
    rcases dset_mem he with h1 | h1
    · omega
    · exact h.inn e h1
  · rcases dset_keys (i := i) (v := v) L with ⟨_, h2⟩ | ⟨h1, h2⟩
    · rw [h2]; exact h.one
    · rw [h2]
      refine List.nodup_append.2 ⟨h.one, by simp, fun a ha b hb => ?_⟩
      simp at hb
      subst hb
      rintro rfl
      exact h1 ha
theorem Md.get {L : List Ent} {l : List UInt8} (h : Md L l) {e : Ent} (he : e ∈ L) : l[e.1]? = some e.2 := by rw [h.byte _ (h.inn e he), dby_mem h.one he]
theorem Md.num8 {L : List Ent} {l : List UInt8} (h : Md L l) {i : Nat} (hi : i < l.length) : at8 l i = (dby L i).toNat := by
  have := h.byte i hi
  unfold at8
  rw [List.getD_eq_getElem?_getD, this]
  rfl
/-- All that one list tells stands in the other. -/
def partL (L M : List Ent) : Bool := L.all fun e => dby M e.1 == e.2
theorem md_same {L M : List Ent} {l m : List UInt8} (h : Md L l) (k : Md M m) (hl : l.length = m.length) : (partL L M && partL M L) = decide (l = m) := by
  apply Bool.eq_iff_iff.2
  rw [Bool.and_eq_true, decide_eq_true_iff]
  unfold partL
  simp only [List.all_eq_true, beq_iff_eq]
  constructor
  · rintro ⟨h1, h2⟩
    apply List.ext_getElem?
    intro i
    by_cases hi : i < l.length
    · rw [h.byte i hi, k.byte i (by omega)]
      by_cases e1 : ∃ e ∈ L, e.1 = i
      · obtain ⟨e, he, rfl⟩ := e1
        rw [h1 e he, dby_mem h.one he]
      · by_cases e2 : ∃ e ∈ M, e.1 = i
        · obtain ⟨e, he, rfl⟩ := e2
          rw [h2 e he, dby_mem k.one he]
        · rw [dby_none fun e he hi => e1 ⟨e, he, hi⟩, dby_none fun e he hi => e2 ⟨e, he, hi⟩]
    · rw [List.getElem?_eq_none (by omega), List.getElem?_eq_none (by omega)]
  · rintro rfl
    refine ⟨fun e he => ?_, fun e he => ?_⟩
    · have h1 := h.get he
      have h2 := k.byte e.1 (h.inn e he)
      rw [h1] at h2
      exact (Option.some.inj h2).symm
    · have h1 := k.get he
      have h2 := h.byte e.1 (k.inn e he)
      rw [h1] at h2
      exact (Option.some.inj h2).symm
/-- Bytes written one after another. -/
def asc (l : List UInt8) (a : Nat) (f : Nat → UInt8) : Nat → List UInt8
  | 0 => l
  | n + 1 => (asc l a f n).set (a + n) (f n)
def dasc (L : List Ent) (a : Nat) (f : Nat → UInt8) : Nat → List Ent
  | 0 => L
  | n + 1 => dset (dasc L a f n) (a + n) (f n)
theorem asc_len (l : List UInt8) (a : Nat) (f : Nat → UInt8) : ∀ n, (asc l a f n).length = l.length
  | 0 => rfl
  | n + 1 => by simp [asc, asc_len l a f n]
theorem asc_get (l : List UInt8) (a : Nat) (f : Nat → UInt8) (i : Nat) : ∀ n, a + n ≤ l.length → (asc l a f n)[i]? = if a ≤ i ∧ i < a + n then some (f (i - a)) else l[i]?
  | 0, _ => by rw [if_neg (by omega)]; rfl
  | n + 1, h => by
    show ((asc l a f n).set (a + n) (f n))[i]? = _
    rw [List.getElem?_set, asc_len]
    by_cases hi : a + n = i
    · rw [if_pos hi, if_pos (by omega), if_pos (by omega)]
      congr 2
      omega
    · rw [if_neg hi, asc_get l a f i n (by omega)]
      by_cases h2 : a ≤ i ∧ i < a + n
      · rw [if_pos h2, if_pos (by omega)]
      · rw [if_neg h2, if_neg (by omega)]
theorem Md.asc {L : List Ent} {l : List UInt8} (h : Md L l) (a : Nat) (f : Nat → UInt8) : ∀ n, a + n ≤ l.length → Md (dasc L a f n) (asc l a f n)
  | 0, _ => h
  | n + 1, hn => (Md.asc h a f n (by omega)).set (by rw [asc_len]; omega) (f n)
theorem lay_asc (l : List UInt8) (a x n : Nat) (h : a + n ≤ l.length) : lay l a x n = asc l a (byteN x) n := by
  apply List.ext_getElem?
  intro i
  rw [asc_get l a _ i n h]
  by_cases hi : a ≤ i ∧ i < a + n
  · rw [if_pos hi]
    have := lay_at a x (i - a) n l (by omega) h
    rw [show a + (i - a) = i by omega] at this
    exact this
  · rw [if_neg hi, lay_far a x i n l (by omega)]
theorem splice_asc (l s : List UInt8) (a : Nat) (h : a + s.length ≤ l.length) : splice l a s = asc l a (fun k => s.getD k 0) s.length := by
  apply List.ext_getElem?
  intro i
  rw [asc_get l a _ i _ h]
  unfold splice
  by_cases h1 : i < a
  · rw [if_neg (by omega), List.append_assoc, List.getElem?_append_left (by simp; omega), List.getElem?_take, if_pos h1]
  · by_cases h2 : i < a + s.length
    · rw [if_pos (by omega), List.append_assoc, List.getElem?_append_right (by simp; omega), List.getElem?_append_left (by simp; omega)]
      have e : (l.take a).length = a := by simp; omega
      rw [e, List.getD_eq_getElem?_getD, List.getElem?_eq_getElem (show i - a < s.length by omega)]
      rfl
    · rw [if_neg (by omega), List.getElem?_append_right (by simp; omega)]
      have e : (l.take a ++ s).length = a + s.length := by simp; omega
      rw [e, List.getElem?_drop]
      congr 1
      omega
/-- The cells of a row of such. -/
def ents (L : List Ent) : List Value := L.flatMap fun e => [.int .u64 e.1, .int .u8 e.2.toNat]
theorem ents_len : ∀ L, (ents L).length = L.length * 2
  | [] => rfl
  | e :: r => by
    have := ents_len r
    unfold ents at this ⊢
    rw [List.flatMap_cons, List.length_append, this]
    simp
    omega
theorem ents_snoc (L : List Ent) (e : Ent) : ents (L ++ [e]) = ents L ++ [.int .u64 e.1, .int .u8 e.2.toNat] := by simp [ents]
theorem ents_get : ∀ {L : List Ent} {k : Nat} {e : Ent}, L[k]? = some e → (ents L)[k * 2]? = some (.int .u64 e.1) ∧ (ents L)[k * 2 + 1]? = some (.int .u8 e.2.toNat)
  | [], k, e, h => by simp at h
  | f :: r, 0, e, h => by simp at h; subst h; exact ⟨rfl, rfl⟩
  | f :: r, k + 1, e, h => by
    have ih := ents_get (L := r) (k := k) (e := e) (by simpa using h)
    have c : ents (f :: r) = .int .u64 f.1 :: .int .u8 f.2.toNat :: ents r := rfl
    rw [c, show (k + 1) * 2 = k * 2 + 1 + 1 by omega]
    exact ih
theorem ents_set : ∀ {L : List Ent} {k : Nat} {e : Ent} (v : UInt8), L[k]? = some e → (ents L).set (k * 2 + 1) (.int .u8 v.toNat) = ents (L.set k (e.1, v))
  | [], k, e, v, h => by simp at h
  | f :: r, 0, e, v, h => by simp at h; subst h; rfl
  | f :: r, k + 1, e, v, h => by
    have ih := ents_set (L := r) (k := k) (e := e) v (by simpa using h)
    have c : ∀ (f : Ent) (r : List Ent), ents (f :: r) = .int .u64 f.1 :: .int .u8 f.2.toNat :: ents r := fun _ _ => rfl
    rw [c, show (k + 1) * 2 + 1 = (k * 2 + 1) + 1 + 1 by omega, List.set_cons_succ, List.set_cons_succ, ih, List.set_cons_succ, c]
end Go.Proofs.Ytjdedgfbonlmkaa
