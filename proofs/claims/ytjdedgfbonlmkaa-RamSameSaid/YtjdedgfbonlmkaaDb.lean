/- The document's memory: its cells; Byte, There, width, set. -/
import Derived.Test.YtjdedgfbonlmkaaDa
import Derived.OneCell
import Derived.OwnWalk
import Derived.Laws.OwnMore
set_option linter.unusedVariables false
set_option linter.unusedSimpArgs false
namespace Go.Proofs.Ytjdedgfbonlmkaa
open Go.RowKit
theorem nodup_le : ∀ (N : Nat) (l : List Nat), l.Nodup → (∀ x ∈ l, x < N) → l.length ≤ N
  | 0, l, _, h => by
    rcases l with _ | ⟨x, l⟩
    · exact Nat.le_refl _
    · have := h x List.mem_cons_self; omega
  | N + 1, l, hn, h => by
    have ih := nodup_le N (l.erase N) (hn.erase N) (fun x hx => by
      have h1 := h x (List.mem_of_mem_erase hx)
      have h2 : x ≠ N := by
        rintro rfl
        exact hn.not_mem_erase hx
      omega)
    by_cases hm : N ∈ l
    · rw [List.length_erase_of_mem hm] at ih; omega
    · rw [List.erase_of_not_mem hm] at ih; omega
theorem Md.num {L : List Ent} {l : List UInt8} (h : Md L l) : L.length ≤ l.length := by
  have := nodup_le l.length (L.map (·.1)) h.one (fun x hx => by obtain ⟨e, he, rfl⟩ := List.mem_map.1 hx; exact h.inn e he)
  simpa using this
theorem info44 : (Try.prog.info? 44).map (fun i => (i.zero, i.size, i.bytes)) = some (some (.agg #[.int .u64 0, .int .u8 0]), 2, 16) := by kernel_rfl
/-- The document's memory. -/
structure Dm (w : World) (C N at' wd : Nat) (l : List UInt8) (base : Nat) (L : List Ent) (v : Value) : Prop where
  box : Box w C 33 #[.int .u64 N, v, .int .u64 at', .int .i64 wd]
  own : w.ownsRow base 44 2 v L.length (ents L)
  md : Md L l
  len : l.length = N
  top : N ≤ 65536
  at1 : at' ≤ 65536
  hb : base ≤ w.heap.size
/-- What a method of it may turn: its own block, and rows of such bytes from base on. -/
structure Dt (C base : Nat) (w w' : World) : Prop where
  os : w'.os = w.os
  tape : w'.tape = w.tape
  output : w'.output = w.output
  size : w.heap.size ≤ w'.heap.size
  block : ∀ k, k < w.heap.size → k ≠ C → (k < base ∨ ∃ cs t fz, w.heap[k]? = some (.cells cs t fz) ∧ t ≠ 44) → w'.heap[k]? = w.heap[k]?
section
variable {w w' w'' : World} {C N at' wd base k : Nat} {l : List UInt8} {L : List Ent} {v : Value} {t : TypeId} {cs : Array Value}
theorem Dt.refl (C base : Nat) (w : World) : Dt C base w w := ⟨rfl, rfl, rfl, Nat.le_refl _, fun _ _ _ _ => rfl⟩
theorem Dt.trans (h : Dt C base w w') (k : Dt C base w' w'') : Dt C base w w'' :=
  ⟨k.os.trans h.os, k.tape.trans h.tape, k.output.trans h.output, Nat.le_trans h.size k.size, fun i hi hn hk => by
    have e := h.block i hi hn hk
    refine (k.block i (Nat.lt_of_lt_of_le hi h.size) hn ?_).trans e
    rcases hk with hk | ⟨cs, t, fz, h1, h2⟩
    · exact .inl hk
    · exact .inr ⟨cs, t, fz, e.trans h1, h2⟩⟩
theorem Dt.ofBelow (h : Below w.heap.size w w') : Dt C base w w' := ⟨h.os, h.tape, h.output, h.size, fun i hi _ _ => h.block i hi⟩
theorem Dt.below (h : Dt C base w w') {b : Nat} (h1 : b ≤ C) (h2 : b ≤ base) (h3 : b ≤ w.heap.size) : Below b w w' := ⟨h.os, h.tape, h.output, h.size, fun i hi => h.block i (by omega) (by omega) (.inl (by omega))⟩
theorem Box.dt (h : Box w k t cs) (hd : Dt C base w w') (hk : k ≠ C) (ht : t ≠ 44) : Box w' k t cs := (hd.block k h.inHeap hk (.inr ⟨cs, t, _, h, ht⟩)).trans h
theorem Dm.lN (h : Dm w C N at' wd l base L v) : L.length ≤ 65536 := by have := h.md.num; have := h.len; have := h.top; omega
theorem own_row {n : Nat} {xs : List Value} (h : w.ownsRow base 44 2 v n xs) : ∃ a cap, v = .slice a n cap ∧ ((n = 0 ∧ a = none) ∨ ∃ g cur, a = some ⟨g, 0, none⟩ ∧ base ≤ g ∧ w.heap[g]? = some (.cells cur 44 (0, 0))) := by
  rcases h.2 with ⟨rfl, rfl⟩ | ⟨g, cap, cur, rfl, hg, hh, _⟩
  · exact ⟨none, 0, rfl, .inl ⟨rfl, rfl⟩⟩
  · exact ⟨_, cap, rfl, .inr ⟨g, cur, rfl, hg, hh⟩⟩
theorem row_ne {g X : Nat} {cur : Array Value} (h : w.heap[g]? = some (.cells cur 44 (0, 0))) (k : Box w X t cs) (ht : t ≠ 44) : g ≠ X := fun e => by
  subst e
  have k' : w.heap[g]? = some (.cells cs t (0, 0)) := k
  rw [h] at k'
  cases k'
  exact ht rfl
theorem dwidth_any (v : Int) (w : World) : Calls Try.prog 48 #[.int .i64 v] w fun e w' => e = .returned (.bool (decide (v = 1 ∨ v = 2 ∨ v = 4 ∨ v = 8))) ∧ w = w' := by
  by_cases h1 : v = 1
  · subst h1
    go_enter Try.func48, Try.ntmps48
    go_wp2
    go_ret
    exact ⟨rfl, rfl⟩
  · by_cases h2 : v = 2
    · subst h2
      go_enter Try.func48, Try.ntmps48
      go_wp2
      go_ret
      exact ⟨rfl, rfl⟩
    · by_cases h3 : v = 4
      · subst h3
        go_enter Try.func48, Try.ntmps48
        go_wp2
        go_ret
        exact ⟨rfl, rfl⟩
      · by_cases h4 : v = 8
        · subst h4
          go_enter Try.func48, Try.ntmps48
          go_wp2
          go_ret
          exact ⟨rfl, rfl⟩
        · have e1 : (v == 1) = false := beq_eq_false_iff_ne.2 h1
          have e2 : (v == 2) = false := beq_eq_false_iff_ne.2 h2
          have e3 : (v == 4) = false := beq_eq_false_iff_ne.2 h3
          have e4 : (v == 8) = false := beq_eq_false_iff_ne.2 h4
          have hd : decide (v = 1 ∨ v = 2 ∨ v = 4 ∨ v = 8) = false := decide_eq_false (by omega)
          rw [hd]
          clear hd
          go_enter Try.func48, Try.ntmps48
          go_wp2
          go_ret
          exact ⟨rfl, rfl⟩
theorem dthere_any (h : Dm w C N at' wd l base L v) (a n : Nat) : Calls Try.prog 49 #[.pointer (some ⟨C, 0, none⟩), .int .u64 a, .int .u64 n] w fun e w' => e = .returned (.bool (decide (a + n ≤ N))) ∧ w = w' := by
  have c0 : w.cell? ⟨C, 0, none⟩ = some (.int .u64 N) := h.box.read 0
  have ht := h.top
  clear h
  by_cases h1 : a ≤ N
  · have hw : IntKind.u64.wrap ((N : Int) - (a : Int)) = (N : Int) - (a : Int) := by show ((N : Int) - (a : Int)) % 18446744073709551616 = _; omega
    by_cases h2 : a + n ≤ N
    · have h3 : (n : Int) ≤ (N : Int) - (a : Int) := by omega
      go_enter Try.func49, Try.ntmps49
      go_wp2
      go_ret
      exact ⟨bool_eq (by first | (simp; done) | (simp; omega)), rfl⟩
    · have h3 : ¬ ((n : Int) ≤ (N : Int) - (a : Int)) := by omega
      go_enter Try.func49, Try.ntmps49
      go_wp2
      go_ret
      exact ⟨bool_eq (by first | (simp; done) | (simp; omega)), rfl⟩
  · go_enter Try.func49, Try.ntmps49
    go_wp2
    go_ret
    exact ⟨bool_eq (by first | (simp; done) | (simp; omega)), rfl⟩
theorem dbyte_any (h : Dm w C N at' wd l base L v) (a : Nat) : Calls Try.prog 50 #[.pointer (some ⟨C, 0, none⟩), .int .u64 a] w fun e w' => e = .returned (.int .u8 (dby L a).toNat) ∧ w = w' := by
  obtain ⟨av, cap, rfl, hav⟩ := own_row h.own
  have c1 : w.cell? ⟨C, 1, none⟩ = some (.slice av L.length cap) := h.box.read 1
  have hL := h.lN
  have HO := Lib.hid h.own
  have HA := Lib.hid hav
  clear h hav
  go_enter Try.func50, Try.ntmps50
  go_wp2
  go_loop [5] (fun i => ∃ k : Nat, k ≤ L.length ∧ i = .int .i64 k ∧ ∀ (j : Nat) (f : Ent), j < k → L[j]? = some f → f.1 ≠ a) (fun i => L.length - (intOf i).toNat)
  case atStart => exact ⟨0, Nat.zero_le _, rfl, fun j f h => by omega⟩
  case round =>
    obtain ⟨k, hk, rfl, hno⟩ := hrel
    have HN := Lib.hid hno
    clear hno
    have k1 : (0 : Int) ≤ (k : Int) := Int.natCast_nonneg _
    by_cases hlt : k < L.length
    · have k2 : (k : Int) < (L.length : Int) := by omega
      obtain ⟨g, rfl⟩ : ∃ g, av = some ⟨g, 0, none⟩ := by
        rcases HA.out with ⟨h0, _⟩ | ⟨g, cur, e, _⟩
        · omega
        · exact ⟨g, e⟩
      have he : L[k]? = some L[k] := List.getElem?_eq_getElem hlt
      generalize L[k] = e at he
      obtain ⟨x1, x2⟩ := ents_get he
      have d0 : w.cell? ⟨g, k * 2, none⟩ = some (.int .u64 e.1) := by rw [World.ownsRow.cellAt HO.out _ (by omega)]; exact x1
      have d1 : w.cell? ⟨g, k * 2 + 1, none⟩ = some (.int .u8 e.2.toNat) := by rw [World.ownsRow.cellAt HO.out _ (by omega)]; exact x2
      obtain ⟨e1, e2⟩ := e
      simp only at d0 d1
      have HE := Lib.hid he
      clear x1 x2 he
      by_cases hq : e1 = a
      · subst hq
        have hz : dby L e1 = e2 := dby_get HE.out rfl HN.out
        go_wp2
        go_ret
        exact ⟨rfl, rfl⟩
      · have q1 : ((e1 : Int) == (a : Int)) = false := beq_eq_false_iff_ne.2 (by omega)
        have q2 : ¬ ((e1 : Int) = (a : Int)) := by omega
        go_wp2
        go_round
        case rel => exact ⟨k + 1, by omega, by go_num, fun j f hj hf => by
          by_cases hjk : j = k
          · subst hjk
            rw [HE.out] at hf
            cases hf
            exact hq
          · exact HN.out j f (by omega) hf⟩
        case measure => simp [intOf]; omega
    · have hz : dby L a = 0 := dby_none fun e he => by
        obtain ⟨j, hj⟩ := List.mem_iff_getElem?.1 he
        exact HN.out j e (by have := (List.getElem?_eq_some_iff.1 hj).1; omega) hj
      go_wp2
      go_ret
      exact ⟨rfl, rfl⟩
end
end Go.Proofs.Ytjdedgfbonlmkaa
