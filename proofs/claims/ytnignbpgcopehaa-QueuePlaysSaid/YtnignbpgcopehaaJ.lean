/- All, and what its iterator does, whatever the loop over it. -/
import Derived.Test.YtnignbpgcopehaaI
import Derived.Test.YtnignbpgcopehaaB
import Derived.RangeFuncNested
import Derived.RangeFuncBound
import Derived.RangeFuncCalls
import Derived.RangeFuncLeaves
import Derived.RangeFuncFrom
import Derived.RangeFuncBox
import Derived.Shelf.Abstract
import Derived.Shelf.RegionOpen
import Derived.OwnWalkIn
import Derived.TacticsInMore
import Derived.LoopNIn
import Derived.LoopIn
set_option linter.unusedVariables false
set_option linter.unusedSimpArgs false
namespace Go.Proofs.Ytnignbpgcopehaa
open Go.RowKit Go.Shelf
attribute [local go_sem] Oper.semAt_some
theorem all_any (B : Nat) (w : World) : Calls Try.prog 28 #[.pointer (some ⟨B, 0, none⟩)] w fun e w' => e = .returned (.func (.func 34) #[] #[.pointer (some ⟨w.heap.size, 0, none⟩)]) ∧ w' = w.alloc (.cells #[.pointer (some ⟨B, 0, none⟩)] 23) := by
  go_enter Try.func28, Try.ntmps28
  go_wp2
  go_ret
  exact ⟨rfl, rfl⟩
/-- Blocks of cells stay, all but X. -/
def KX (X : Nat) (W W' : World) : Prop := ∀ k, k ≠ X → ∀ cs t fz, W.heap[k]? = some (.cells cs t fz) → W'.heap[k]? = some (.cells cs t fz)
theorem KX.t {X : Nat} {A B C : World} (h : KX X A B) (k : KX X B C) : KX X A C := fun i hi cs t fz hh => k i hi cs t fz (h i hi cs t fz hh)
theorem KX.b {X n : Nat} (W : World) (l : Nat) (o o' : Obj) (_ : n ≤ l) (h : W.heap[l]? = some o) (hc : o.isCells = false) (_ : o.isWalk = false) : KX X W (W.putObj l o') := fun k hk cs t fz hh => by
  by_cases e : k = l
  · subst e
    rw [h] at hh
    cases hh
    cases hc
  · exact (World.putObj_heap_other (fun e' => e e')).trans hh
section
variable {P : Program} {n : Nat} {ops : Array Oper} {rest : List Oper} {o : Oper} {a : Act} {w : World} {Q : Exit → Act → World → Prop}
theorem wpListIn_load_rowW (hgd : o.guard = none) (ty : TypeId) (x : Operand) (ho : o.op = .load ty x)
    (g : Nat) (hx : a.eval x = .pointer (some ⟨g, 0, none⟩)) (t : TypeId) (cs : Array Value) (fr : Nat × Nat) (d : TypeDesc) (hg : w.heap[g]? = some (.cells cs t fr))
    (hu : P.underlying ty = some d) (hd : (match d with | .struct _ | .array _ _ => true | _ => false) = true) (hi : (P.info? ty).map (·.size) = some cs.size)
    (h : wpListIn Fence.wide n P ops Q rest (a.put o.dst (.agg cs)) w) : wpListIn Fence.wide n P ops Q (o :: rest) a w :=
  wpListIn_plain hgd fun K hK => ⟨fun _ _ => trivial, by
    show o.uponIn Fence.wide n P a K Q ((Oper.semAt none a.eval o).run P w)
    rw [Oper.semAt_none]
    unfold execOp
    simp only [ho, hx, Instr.loadAt, Instr.sureAddr, Sem.run_bind, Sem.run_pure, Result.andThen_ok, run_loadVar_row w g t ty cs fr d hg hu hd hi]
    exact hK _ _ h⟩
theorem wpListIn_store_rowW (hgd : o.guard = none) (ty : TypeId) (x y : Operand) (ho : o.op = .store ty x y)
    (g : Nat) (cells : Array Value) (hx : a.eval x = .pointer (some ⟨g, 0, none⟩)) (hy : a.eval y = .agg cells)
    (t : TypeId) (old : Array Value) (hg : w.heap[g]? = some (.cells old t (0, 0))) (hi : (P.info? ty).map (·.size) = some cells.size)
    (hold : old.size = cells.size) (h1 : cells.all (·.oneCell') = true)
    (h : wpListIn Fence.wide n P ops Q rest (a.put o.dst undef) (w.setRow g cells)) : wpListIn Fence.wide n P ops Q (o :: rest) a w :=
  wpListIn_plain hgd fun K hK => ⟨fun _ _ => trivial, by
    show o.uponIn Fence.wide n P a K Q ((Oper.semAt none a.eval o).run P w)
    rw [Oper.semAt_none]
    unfold execOp
    simp only [ho, hx, hy, Instr.storeAt, Instr.sureAddr, Sem.run_bind, Sem.run_pure, Result.andThen_ok, run_storeVar_row w g t ty old cells hg hi hold h1]
    exact hK _ _ h⟩
theorem wpListIn_alloc_toW (hg : o.guard = none) (t : TypeId) (ho : o.op = .alloc t)
    (cells : Array Value) (hc : ∀ w : World, (Instr.alloc t true (.tuple #[])).run P w = .ok (.pointer (some ⟨w.heap.size, 0, none⟩)) (w.alloc (.cells cells t)))
    (h : wpListIn Fence.wide n P ops Q rest (a.put o.dst (.pointer (some ⟨w.heap.size, 0, none⟩))) (w.alloc (.cells cells t))) : wpListIn Fence.wide n P ops Q (o :: rest) a w :=
  wpListIn_plain hg fun K hK => ⟨fun _ _ => trivial, by
    show o.uponIn Fence.wide n P a K Q ((Oper.semAt none a.eval o).run P w)
    rw [Oper.semAt_none]
    unfold execOp
    simp only [ho, Sem.run_bind, Sem.run_pure, Result.andThen_ok, hc w]
    exact hK _ _ h⟩
end
def noF (_ : Nat) : ByteArray := ⟨#[]⟩
theorem alloc_q (w : World) : (Instr.alloc 54 true (.tuple #[])).run Try.prog w = .ok (.pointer (some ⟨w.heap.size, 0, none⟩)) (w.alloc (.cells (qc 0 0 noF 0 0) 54)) := by kernel_rfl
theorem size_q (d m : Nat) (F : Nat → ByteArray) (f n : Int) : (Try.prog.info? 54).map (·.size) = some (qc d m F f n).size := by kernel_rfl
theorem one_q (d m : Nat) (F : Nat → ByteArray) (f n : Int) : (qc d m F f n).all (·.oneCell') = true := by kernel_rfl
/-- The messages that wait, in order. -/
def msgs {α : Type} (F : Nat → α) (f n : Nat) : List α := (List.range n).map fun j => F ((f + j) % 16)
theorem msgs_succ {α : Type} (F : Nat → α) (f n : Nat) : msgs F f (n + 1) = msgs F f n ++ [F ((f + n) % 16)] := by simp [msgs, List.range_succ]
theorem msgs_len {α : Type} (F : Nat → α) (f n : Nat) : (msgs F f n).length = n := by simp [msgs]
theorem msgs_pre {α : Type} (F : Nat → α) (f n : Nat) : ∀ k, k ≤ n → msgs F f k <+: msgs F f n := fun k hk => by
  obtain ⟨j, rfl⟩ : ∃ j, n = k + j := ⟨n - k, by omega⟩
  clear hk
  induction j with
  | zero => exact List.prefix_refl _
  | succ j ih => rw [← Nat.add_assoc, msgs_succ]; exact ih.trans (List.prefix_append _ _)
/-- A message. -/
abbrev Sm := { s : ByteArray // s.size ≤ 64 }
def un (G : Nat → Sm) (j : Nat) : ByteArray := (G j).1
set_option maxRecDepth 100000 in
set_option maxHeartbeats 4000000 in
theorem iter_all {w : World} {B d m f c : Nat} {G : Nat → Sm} (n : Nat) (hn : 1 ≤ n) (X Bn : Nat) (hX : X < w.heap.size) (hBn : Bn < w.heap.size) (hq : Qu w B d m (un G) f c) (hc : w.cell? ⟨Bn, 0, none⟩ = some (.pointer (some ⟨B, 0, none⟩))) :
    SeqStopsK Fence.wide n Try.prog 34 #[.pointer (some ⟨Bn, 0, none⟩)] (fun x : Sm => #[Value.string x.1]) (KX X) (fun ys => ys = msgs G f c) (fun pre => pre <+: msgs G f c) c w := fun l J Jx W hW hJ hJx hY h0 => by
  have hq1 : Qu W B d m (un G) f c := hq.over hW hq.box.inHeap
  have hc1 : W.cell? ⟨Bn, 0, none⟩ = some (.pointer (some ⟨B, 0, none⟩)) := (hW.cell (p := ⟨Bn, 0, none⟩) hBn).trans hc
  have hsz := hW.size
  obtain ⟨W2, hW2⟩ : ∃ W2, W2 = (W.alloc (.cells (qc 0 0 noF 0 0) 54)).setRow W.heap.size (qc d m (un G) f c) := ⟨_, rfl⟩
  have hb2 : Box W2 W.heap.size 54 (qc d m (un G) f c) := by rw [hW2]; exact (Box.made W 54 (qc 0 0 noF 0 0)).row _
  have hJ2 : J [] W2 := hJ [] W W2 none h0 ⟨by rw [hW2]; rfl, by rw [hW2]; rfl, by rw [hW2]; rfl, by rw [hW2]; simp, fun k hk _ => by rw [hW2]; exact (setRow_other _ _ k _ (by omega)).trans (Below.heap_alloc W _ k hk)⟩ (fun r e => by cases e)
  have HQ1 := Lib.hid hq1
  have HM := Lib.hid (made_any hq1)
  have c19 : ((W.alloc (.cells (qc 0 0 noF 0 0) 54)).setRow W.heap.size (qc d m (un G) f c)).cell? ⟨W.heap.size, 19, none⟩ = some (.int .i64 c) := by rw [← hW2]; exact hb2.read 19
  clear hq hq1 h0
  refine callsIn_of_wp Try.func34 rfl trivial ?_ rfl
  simp only [Try.ntmps34, List.size_toArray, List.length_cons, List.length_nil, Nat.reduceAdd, Nat.reduceSub, Array.replicate_succ, Array.replicate_zero, List.push_toArray, List.append_toArray, List.nil_append, List.cons_append]
  gi_wp2_with (first
    | (refine ⟨trivial, ?_⟩; gi_at_call 25; refine (callsIn_wide.2 HM.out).mono ?_; rintro e w' ⟨rfl, rfl⟩)
    | (refine wpListIn_load_rowW rfl 54 _ rfl B rfl 54 (qc d m (un G) f c) (0, 0) _ HQ1.out.box Try.underlying54 rfl (size_q d m (un G) f c) ?_)
    | (refine wpListIn_alloc_toW rfl 54 rfl (qc 0 0 noF 0 0) alloc_q ?_)
    | (refine wpListIn_store_rowW rfl 54 _ _ rfl W.heap.size (qc d m (un G) f c) rfl rfl 54 (qc 0 0 noF 0 0) (Box.made W 54 _) (size_q d m (un G) f c) rfl (one_q d m (un G) f c) ?_))
  rw [← hW2]
  clear c19
  gi_loopw [13] (fun i wr => ∃ k : Nat, k ≤ c ∧ i = .int .i64 k ∧ J (msgs G f k) wr ∧ Box wr W.heap.size 54 (qc d m (un G) f c)) (fun i _ => c - (intOf i).toNat)
  case atStart => exact ⟨0, Nat.zero_le _, rfl, hJ2, hb2⟩
  case round =>
    obtain ⟨k, hk, rfl, hJk, hbk⟩ := hrel
    have k1 : (0 : Int) ≤ (k : Int) := Int.natCast_nonneg _
    by_cases hlt : k < c
    · have k2 : (k : Int) < (c : Int) := by omega
      have hqk : Qu wr W.heap.size d m (un G) f c := ⟨hbk, HQ1.out.hf, HQ1.out.hn, HQ1.out.h1, HQ1.out.hd, HQ1.out.hm⟩
      have hk16 : (f + k) % 16 < 16 := Nat.mod_lt _ (by decide)
      have HP := Lib.hid (place_any hqk k (by have := HQ1.out.hn; have := HQ1.out.hd; omega))
      have ce : wr.cell? ⟨W.heap.size, 2 + (f + k) % 16, none⟩ = some (.string (G ((f + k) % 16)).1) := (hbk.read _).trans (qc_at d m (un G) f c _ hk16)
      obtain ⟨fn, tmps, assign, body, hy, hR⟩ := hY (msgs G f k) (G ((f + k) % 16)) wr hJk (by rw [msgs_len]; exact hlt)
      have HB := Lib.hid hbk
      generalize hr : (f + k) % 16 = r at hk16 HP ce hy hR
      have HR := Lib.hid hr
      have HLT := Lib.hid hlt
      have hr2 : (r : Int) < 16 := by omega
      clear hr hqk hbk
      gi_wp2_with (refine ⟨trivial, ?_⟩; gi_at_call 26; refine (callsIn_wide.2 HP.out).mono ?_; rintro e w' ⟨rfl, rfl⟩)
      refine hR.mono ?_
      rintro e W3 (⟨rfl, hJ3, hk3⟩ | ⟨rfl, hJx3⟩)
      · have hb3 : Box W3 W.heap.size 54 (qc d m (un G) f c) := hk3 _ (by omega) _ _ _ HB.out
        rw [← HR.out, ← msgs_succ] at hJ3
        have hs : wrap64 ((k : Int) + 1) = (k : Int) + 1 := by
          have h1 := HLT.out
          have h2 := HQ1.out.hn
          have h3 := HQ1.out.hd
          unfold wrap64
          omega
        gi_wp2
        go_roundw
        case rel => exact ⟨k + 1, by have := HLT.out; omega, val_eq (hs.trans (by omega)), hJ3, hb3⟩
        case measure =>
          have h9 := HLT.out
          rw [hs]
          have e1 : (intOf (.int .i64 ((k : Int) + 1))).toNat = k + 1 := by show ((k : Int) + 1).toNat = k + 1; omega
          have e2 : (intOf (.int .i64 (k : Int))).toNat = k := by show ((k : Int)).toNat = k; omega
          rw [e1, e2]
          omega
      · rw [← HR.out, ← msgs_succ] at hJx3
        gi_wp2
        refine bodyPost_ret (results_none rfl _ _ _) rfl ?_
        exact ⟨⟨_, rfl⟩, .inr ⟨_, msgs_pre G f c (k + 1) (by have := HLT.out; omega), hJx3⟩⟩
    · obtain rfl : k = c := by omega
      gi_wp2
      go_end0
      exact ⟨⟨_, rfl⟩, .inl ⟨_, rfl, hJk⟩⟩
end Go.Proofs.Ytnignbpgcopehaa
