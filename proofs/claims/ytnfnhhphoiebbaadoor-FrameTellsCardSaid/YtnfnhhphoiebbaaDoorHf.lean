/- A region that draws its order, within a round of a loop over a function: out of what the layer without fences shows of it. -/
import Derived.Test.YtnfnhhphoiebbaaDoorHp
import Derived.OrdersIn
import Derived.TacticsIn
import Derived.RangeFuncCalls
set_option linter.unusedVariables false
namespace Go.Proofs.YtnfnhhphoiebbaaDoor
open Go
/-- Q, where the region ends; nothing else happens. -/
def Ends (Q : Exit → Act → World → Prop) : Exit → Act → World → Prop
  | .normal, a, w => Q .normal a w
  | _, _, _ => False
def notDefer (o : Oper) : Bool := match o.op with
  | .defer _ => false
  | _ => true
section
variable {P : Program} {n : Nat} {md : Region.Mode} {ops : Array Oper} {Q : Exit → Act → World → Prop} {S : World → Prop}
theorem rows_round {l : Nat} {row : String} {args : Array Value} {w : World} {R : Value → World → Prop} (h : Rows P row args w R) : RowsIn (Fence.wide.inRound l) n P row args w R :=
  fun c cs _ => let ⟨v, w', r, s⟩ := h c cs; ⟨v, w', r, stepsIn_wide.2 s⟩
theorem oper_round {l : Nat} {o : Oper} (hd : notDefer o = true) {a : Act} {w : World} {K : Act → World → Prop} (h : o.wp P a w K (Ends Q)) : o.wpIn (Fence.wide.inRound l) n P a w K Q := by
  refine ⟨fun _ _ => trivial, ?_⟩
  have hs : o.semAt (Fence.wide.inRound l).round a.eval = execOp a.eval o := Oper.semAt_some l _ _ (fun c e => by unfold notDefer at hd; rw [e] at hd; cases hd)
  rw [hs]
  unfold Oper.wp at h
  generalize (execOp a.eval o).run P w = r at h ⊢
  cases r with
  | ok x w' =>
    cases x <;> simp only [Oper.upon, Oper.uponIn] at h ⊢ <;> first
      | exact h
      | exact ⟨fun h => by simp [Fence.inRound, Fence.wide] at h, CallsIn.inRound l (callsIn_wide.2 (Calls.mono h (fun e w'' he => by
          cases e
          · exact he
          · exact (he : False).elim
          · obtain ⟨_, _, x⟩ := he
            exact (x : False).elim)))⟩
      | exact ⟨fun h => by simp [Fence.inRound, Fence.wide] at h, rows_round h⟩
      | exact (h : False).elim
  | halt x w' => cases x <;> simp only [Oper.upon, Oper.uponIn] at h ⊢ <;> exact (h : False).elim
theorem any_round {l : Nat} (hd : ∀ (i : Nat) (o : Oper), ops[i]? = some o → notDefer o = true) : ∀ (f : Nat) (listed : Array Bool) (a : Act) (w : World), wpAnyH P md ops (Ends Q) S f listed a w → wpAnyIn (Fence.wide.inRound l) n P md ops Q f listed a w
  | 0, _, _, _, h => h
  | f + 1, listed, a, w, h => ⟨h.1, fun i hi => by
    have h2 := h.2 i hi
    unfold wpOp at h2
    unfold wpOpIn
    cases ho : ops[i]? with
    | none =>
      rw [ho] at h2
      exact any_round hd f _ _ _ h2.2
    | some o =>
      rw [ho] at h2
      simp only at h2 ⊢
      by_cases hw : Region.wanted o (yielded ops a.tmps) = true
      · rw [if_pos hw] at h2
        rw [if_pos hw]
        rcases h2 with h2 | h2
        · exact oper_round (hd i o ho) (Oper.wp_mono (fun a' w' h' => any_round hd f _ a' w' h'.2) h2)
        · obtain ⟨_, _, x⟩ := h2.2
          exact (x : False).elim
      · rw [if_neg hw] at h2
        rw [if_neg hw]
        exact ⟨fun _ _ => trivial, any_round hd f _ _ _ h2.2⟩⟩
theorem wpIn_region_ends {id r : Nat} {a : Act} {w : World} {l : List Oper} (S : World → Prop) (s : List Mv) (hm : P.follows .mixedOrders = true) (hs : Region.noSelect l.toArray = true)
    (hb : movesB .any l.toArray s (List.range l.length) (Array.replicate l.length false) = true) (hl : Nat.beq (movesN s) l.length = true) (hd : l.all notDefer = true) (h : wpMoves P l.toArray (Ends Q) s S l a w.drew) : (Code.region id l.toArray true).wpIn (Fence.wide.inRound r) n P Q a w := by
  refine wpIn_region_any hm ?_
  have h1 := wpAnyH_moves (P := P) (md := .any) (ops := l.toArray) (Q := Ends Q) hs (fun _ _ _ _ _ h => h) s S (List.range l.length) l 0 _ _ _ (fun k => by
    by_cases hk : k < l.length
    · rw [List.getElem?_range hk]; simp
    · rw [List.getElem?_eq_none (by simpa using Nat.le_of_not_lt hk), List.getElem?_eq_none (by omega)]; rfl) (by simp) hb h
  rw [Nat.zero_add, Nat.eq_of_beq_eq_true hl] at h1
  have h2 := any_round (n := n) (l := r) (fun i o ho => List.all_eq_true.1 hd o (by rw [List.getElem?_toArray] at ho; exact List.mem_of_getElem? ho)) _ _ _ _ h1
  simpa using h2
theorem mv_ends {l : List Oper} {a : Act} {w : World} (h : Q .normal a w) : wpMoves P ops (Ends Q) [] S l a w := h
end
end Go.Proofs.YtnfnhhphoiebbaaDoor
