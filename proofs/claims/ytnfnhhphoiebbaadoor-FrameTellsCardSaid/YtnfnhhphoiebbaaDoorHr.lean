/- A region that draws its order, within a round of a loop over a function: the first ones by a schedule, the last ones, which wait for all the others, one behind the other. -/
import Derived.Test.YtnfnhhphoiebbaaDoorHf
import Derived.Test.YtnfnhhphoiebbaaDoorHq
set_option linter.unusedVariables false
set_option linter.unusedSimpArgs false
namespace Go.Proofs.YtnfnhhphoiebbaaDoor
open Go
section
variable {P : Program} {n : Nat} {md : Region.Mode} {ops : Array Oper} {Q : Exit → Act → World → Prop} {S : World → Prop}
theorem held_of_any : ∀ (f : Nat) (l : Array Bool) (a : Act) (w : World), wpAny P md ops Q f l a w → wpAnyH P md ops Q (fun _ => True) f l a w
  | 0, _, _, _, h => h
  | f + 1, _, _, _, h => ⟨h.1, fun i hi => wpOp_mono (fun a' w' h' => ⟨trivial, held_of_any f _ a' w' h'⟩) (h.2 i hi)⟩
theorem wpIn_region_then_ends {id r : Nat} {a : Act} {w : World} {l : List Oper} (m : Nat) (S : World → Prop) (s : List Mv) (hm : P.follows .mixedOrders = true) (hs : Region.noSelect (l.take m).toArray = true)
    (hb : movesB .any (l.take m).toArray s (List.range (l.take m).length) (Array.replicate (l.take m).length false) = true) (hl : Nat.beq (movesN s) (l.take m).length = true)
    (hw : waitB .any (l.take m).length (l.take m ++ l.drop m) = true) (hq : seqB .any (l.take m ++ l.drop m).toArray (l.drop m).length (l.take m).length (Array.replicate (l.take m).length true ++ Array.replicate (l.drop m).length false) = true) (hd : l.all notDefer = true)
    (h : wpMoves P (l.take m).toArray (QP P l.toArray (l.drop m) (Ends Q)) s S (l.take m) a w.drew) : (Code.region id l.toArray true).wpIn (Fence.wide.inRound r) n P Q a w := by
  refine wpIn_region_any hm ?_
  have h1 := wpAnyH_moves (md := .any) hs (Q := QP P l.toArray (l.drop m) (Ends Q)) (fun _ _ _ _ _ h => h) s S (List.range (l.take m).length) (l.take m) 0 (Array.replicate (l.take m).length false) a w.drew (fun k => by
    by_cases hk : k < (l.take m).length
    · rw [List.getElem?_range hk]; simp
    · rw [List.getElem?_eq_none (by simpa using Nat.le_of_not_lt hk), List.getElem?_eq_none (by omega)]; rfl) (by simp) hb h
  rw [Nat.zero_add, Nat.eq_of_beq_eq_true hl] at h1
  have h2 := wpAny_thenH (md := .any) (pre := l.take m) (post := l.drop m) (Q := Ends Q) (S := S) hw hq (l.take m).length (Array.replicate (l.take m).length false) a w.drew Array.size_replicate (fun j hj => by rw [getD_rep] at hj; cases hj) (by rw [List.take_append_drop]; exact h1)
  rw [List.take_append_drop] at h2
  have e : Array.replicate (l.take m).length false ++ Array.replicate (l.drop m).length false = Array.replicate l.length false := by
    rw [Array.replicate_append_replicate, ← List.length_append, List.take_append_drop]
  rw [e, ← List.length_append, List.take_append_drop] at h2
  have h3 := any_round (n := n) (l := r) (fun i o ho => List.all_eq_true.1 hd o (by rw [List.getElem?_toArray] at ho; exact List.mem_of_getElem? ho)) _ _ _ _ (held_of_any _ _ _ _ h2)
  simpa using h3
theorem mv_thenE {ops ops2 : Array Oper} {post l : List Oper} {a : Act} {w : World} (h : wpList P ops2 (Ends Q) post a w) : wpMoves P ops (QP P ops2 post (Ends Q)) [] S l a w := h
end
end Go.Proofs.YtnfnhhphoiebbaaDoor
