/- A queue by its messages: what its methods do. -/
import Derived.Test.YtnignbpgcopehaaK
set_option linter.unusedVariables false
set_option linter.unusedSimpArgs false
namespace Go.Proofs.Ytnignbpgcopehaa
open Go.RowKit
def mkS (t : ByteArray) : Sm := if h : t.size ≤ 64 then ⟨t, h⟩ else ⟨⟨#[]⟩, Nat.zero_le _⟩
theorem mkS_val {t : ByteArray} (h : t.size ≤ 64) : (mkS t).1 = t := by unfold mkS; rw [dif_pos h]
def turnG (G : Nat → Sm) (k : Nat) (x : Sm) (i : Nat) : Sm := if i = k then x else G i
theorem un_turn (G : Nat → Sm) (k : Nat) (x : Sm) : un (turnG G k x) = turn (un G) k x.1 := by
  funext i
  unfold un turnG turn
  split <;> rfl
theorem msgs_send (G : Nat → Sm) (f n : Nat) (hn : n < 16) (x : Sm) : msgs (turnG G ((f + n) % 16) x) f (n + 1) = msgs G f n ++ [x] := by
  rw [msgs_succ]
  congr 1
  · apply List.map_congr_left
    intro j hj
    have := List.mem_range.1 hj
    exact if_neg (by omega)
  · exact congrArg (fun y => [y]) (if_pos rfl)
theorem msgs_recv (G : Nat → Sm) (f n : Nat) (hf : f < 16) (hn : n < 16) (x : Sm) : G f :: msgs (turnG G f x) ((f + 1) % 16) n = msgs G f (n + 1) := by
  unfold msgs
  rw [List.range_succ_eq_map, List.map_cons, List.map_map]
  congr 1
  · show G f = G ((f + 0) % 16)
    rw [Nat.add_zero, Nat.mod_eq_of_lt hf]
  · apply List.map_congr_left
    intro j hj
    have := List.mem_range.1 hj
    show turnG G f x (((f + 1) % 16 + j) % 16) = G ((f + (j + 1)) % 16)
    have e : ((f + 1) % 16 + j) % 16 = (f + (j + 1)) % 16 := by omega
    rw [e]
    exact if_neg (by omega)
/-- A queue that holds these messages. -/
def Ql (w : World) (B d m : Nat) (Ms : List Sm) : Prop := ∃ G f, Qu w B d m (un G) f Ms.length ∧ msgs G f Ms.length = Ms
section
variable {w w' : World} {B d m : Nat} {Ms : List Sm}
theorem Ql.only {b : Nat} (h : Ql w B d m Ms) (k : Only b w w') (hb : B ≠ b) : Ql w' B d m Ms := by obtain ⟨G, f, h, e⟩ := h; exact ⟨G, f, h.only k hb, e⟩
theorem Ql.over (h : Ql w B d m Ms) (k : Below w.heap.size w w') : Ql w' B d m Ms := by obtain ⟨G, f, h, e⟩ := h; exact ⟨G, f, h.over k h.box.inHeap, e⟩
theorem Ql.drawn (h : Ql w B d m Ms) (n : Nat) : Ql (w.drewN n) B d m Ms := by obtain ⟨G, f, h, e⟩ := h; exact ⟨G, f, h.drawn n, e⟩
theorem Ql.inHeap (h : Ql w B d m Ms) : B < w.heap.size := by obtain ⟨G, f, h, e⟩ := h; exact h.box.inHeap
theorem Ql.len (h : Ql w B d m Ms) : Ms.length ≤ d ∧ d ≤ 16 ∧ m ≤ 64 := by obtain ⟨G, f, h, e⟩ := h; exact ⟨h.hn, h.hd, h.hm⟩
def sendN (d m : Nat) (Ms : List Sm) (s : ByteArray) : Nat := if m < s.size then 3 else if Ms.length = d then 1 else 0
def sendM (d m : Nat) (Ms : List Sm) (s : ByteArray) : List Sm := if m < s.size then Ms else if Ms.length = d then Ms else Ms ++ [mkS s]
theorem ql_send (h : Ql w B d m Ms) (s : ByteArray) : Calls Try.prog 15 #[.pointer (some ⟨B, 0, none⟩), .string s] w fun e w' => e = .returned (.int .u8 (sendN d m Ms s)) ∧ Ql w' B d m (sendM d m Ms s) ∧ Only B w w' := by
  have h' := h
  obtain ⟨G, f, hq, e⟩ := h
  unfold sendN sendM
  by_cases h1 : m < s.size
  · rw [if_pos h1, if_pos h1]
    refine (send_long hq s h1).mono ?_
    rintro e w' ⟨rfl, rfl⟩
    exact ⟨rfl, h', Only.refl _ _⟩
  · rw [if_neg h1, if_neg h1]
    by_cases h2 : Ms.length = d
    · rw [if_pos h2, if_pos h2]
      refine (send_full hq s (by omega) h2).mono ?_
      rintro e w' ⟨rfl, k, rfl⟩
      exact ⟨rfl, h'.drawn k, (Only.refl _ _).drawn k⟩
    · rw [if_neg h2, if_neg h2]
      have hl := h'.len
      refine (send_ok hq s (by omega) (by omega)).mono ?_
      rintro e w' ⟨rfl, hq2, ho⟩
      refine ⟨rfl, ⟨turnG G ((f + Ms.length) % 16) (mkS s), f, ?_, ?_⟩, ho⟩
      · rw [un_turn, mkS_val (by omega), List.length_append]; exact hq2
      · rw [List.length_append]
        show msgs _ f (Ms.length + 1) = _
        rw [msgs_send G f _ (by omega), e]
def recvS : List Sm → ByteArray
  | [] => ⟨#[]⟩
  | x :: _ => x.1
def recvN : List Sm → Nat
  | [] => 4
  | _ :: _ => 0
theorem ql_recv (h : Ql w B d m Ms) : Calls Try.prog 11 #[.pointer (some ⟨B, 0, none⟩)] w fun e w' => e = .returned (.tuple #[.string (recvS Ms), .int .u8 (recvN Ms)]) ∧ Ql w' B d m Ms.tail ∧ Only B w w' := by
  have h' := h
  obtain ⟨G, f, hq, e⟩ := h
  rcases Ms with _ | ⟨x, Ms⟩
  · refine (receive_none hq).mono ?_
    rintro e w' ⟨rfl, rfl⟩
    exact ⟨rfl, h', Only.refl _ _⟩
  · have hl := h'.len
    have hf := hq.hf
    have hm := msgs_recv G f Ms.length hf (by simp at hl; omega) ⟨⟨#[]⟩, Nat.zero_le _⟩
    rw [List.length_cons] at e
    rw [e] at hm
    obtain ⟨hx, ht⟩ := List.cons.inj hm
    refine (receive_ok hq (by simp)).mono ?_
    rintro e w' ⟨rfl, hq2, ho⟩
    refine ⟨?_, ⟨turnG G f ⟨⟨#[]⟩, Nat.zero_le _⟩, (f + 1) % 16, ?_, ?_⟩, ho⟩
    · show Ending.returned (.tuple #[.string (un G f), _]) = _
      rw [show un G f = x.1 by unfold un; rw [hx]]
      rfl
    · rw [un_turn]
      exact hq2
    · exact ht
theorem ql_dump (h : Ql w B d m Ms) : Calls Try.prog 23 #[.pointer (some ⟨B, 0, none⟩)] w fun e w' => e = .returned (.string (dumpM Ms.length Ms)) ∧ Below w.heap.size w w' := by
  obtain ⟨G, f, hq, e⟩ := h
  refine (dump_any hq).mono ?_
  rintro e' w' ⟨rfl, hb⟩
  exact ⟨by rw [e], hb⟩
end
end Go.Proofs.Ytnignbpgcopehaa
