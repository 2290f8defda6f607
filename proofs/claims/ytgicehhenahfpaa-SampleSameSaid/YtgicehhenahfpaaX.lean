/- Two channels' structs compared. -/
import Derived.Test.YtgicehhenahfpaaU
import Derived.Laws.StructEq
import Derived.ChangeKeysEq
set_option linter.unusedVariables false
set_option linter.unusedSimpArgs false
namespace Go.Proofs.Ytgicehhenahfpaa
open Go.RowKit
section
variable {m v n t m' v' n' t' : Int} {has has' : Bool} {s s' : ByteArray} {F F' : Nat → Bool} {B C : Nat} {w : World}
set_option maxHeartbeats 2000000 in
set_option maxRecDepth 20000 in
theorem fields57 : (Try.prog.fieldsOf 57).toList.map (fun f => (f.name, f.type, f.offset)) = [("made", 4, 0), ("most", 3, 1), ("validity", 22, 2), ("ends", 3, 3), ("has", 4, 4), ("at", 37, 5), ("message", 9, 6), ("fresh", 51, 7)] := by kernel_rfl
theorem eqFields_map (d : Nat) (xs ys : Array Value) : ∀ (l k : List Field), l.map (fun f => (f.name, f.type, f.offset)) = k.map (fun f => (f.name, f.type, f.offset)) → Op.eqFields d xs ys l = Op.eqFields d xs ys k
  | [], [], _ => rfl
  | [], f :: k, h => by cases h
  | f :: l, [], h => by cases h
  | f :: l, g :: k, h => by
    simp only [List.map_cons, List.cons.injEq, Prod.mk.injEq] at h
    obtain ⟨⟨h1, h2, h3⟩, h4⟩ := h
    simp only [Op.eqFields, h1, h2, h3, eqFields_map d xs ys l k h4]
def fld (n : String) (t o : Nat) : Field := { name := n, type := t, offset := o, embedded := false, tag := "", pkgPath := "", byteOffset := 0 }
theorem eqFields57 (d : Nat) (xs ys : Array Value) : Op.eqFields d xs ys (Try.prog.fieldsOf 57).toList = Op.eqFields d xs ys [fld "made" 4 0, fld "most" 3 1, fld "validity" 22 2, fld "ends" 3 3, fld "has" 4 4, fld "at" 37 5, fld "message" 9 6, fld "fresh" 51 7] :=
  eqFields_map d xs ys _ _ (by rw [fields57]; rfl)
/-- The marks of all ends. -/
def mks (F : Nat → Bool) : Array Value := #[.bool (F 0), .bool (F 1), .bool (F 2), .bool (F 3), .bool (F 4), .bool (F 5), .bool (F 6), .bool (F 7), .bool (F 8), .bool (F 9), .bool (F 10), .bool (F 11), .bool (F 12), .bool (F 13), .bool (F 14), .bool (F 15)]
theorem mks_at (F : Nat → Bool) (w : World) : ∀ k : Nat, k < 16 → (part 4 (mks F) (k * 1)).run Try.prog w = .ok (.bool (F k)) w
  | 0, _ => by simp [part, go_sem, mks]
  | 1, _ => by simp [part, go_sem, mks]
  | 2, _ => by simp [part, go_sem, mks]
  | 3, _ => by simp [part, go_sem, mks]
  | 4, _ => by simp [part, go_sem, mks]
  | 5, _ => by simp [part, go_sem, mks]
  | 6, _ => by simp [part, go_sem, mks]
  | 7, _ => by simp [part, go_sem, mks]
  | 8, _ => by simp [part, go_sem, mks]
  | 9, _ => by simp [part, go_sem, mks]
  | 10, _ => by simp [part, go_sem, mks]
  | 11, _ => by simp [part, go_sem, mks]
  | 12, _ => by simp [part, go_sem, mks]
  | 13, _ => by simp [part, go_sem, mks]
  | 14, _ => by simp [part, go_sem, mks]
  | 15, _ => by simp [part, go_sem, mks]
  | k + 16, h => absurd h (by omega)
theorem mks_eq (d : Nat) (F F' : Nat → Bool) (w : World) : ∀ is : List Nat, (∀ k ∈ is, k < 16) → (Op.eqItems (d + 1) 4 1 (mks F) (mks F') is).run Try.prog w = .ok (is.all fun k => F k == F' k) w
  | [], _ => by simp [Op.eqItems]
  | i :: is, h => by
    simp only [Op.eqItems, Sem.run_bind, mks_at F w i (h i (List.mem_cons_self ..)), mks_at F' w i (h i (List.mem_cons_self ..)), Result.andThen_ok, run_equalIn_bool' w d 4 _ _ Try.underlying4, List.all_cons]
    cases hb : F i == F' i
    · simp
    · simpa using mks_eq d F F' w is fun k hk => h k (List.mem_cons_of_mem _ hk)
/-- All marks are the same. -/
def allM (F F' : Nat → Bool) : Bool := (List.range 16).all fun k => F k == F' k
theorem info4 : ∃ i, Try.prog.info? 4 = some i := Option.isSome_iff_exists.1 (by kernel_rfl)
/-- Are two channels the same, field by field? -/
def sameB (m v n : Int) (has : Bool) (t : Int) (s : ByteArray) (F : Nat → Bool) (m' v' n' : Int) (has' : Bool) (t' : Int) (s' : ByteArray) (F' : Nat → Bool) : Bool :=
  decide (m = m') && (decide (v = v') && (decide (n = n') && (decide (has = has') && (decide (t = t') && (decide (s.toList = s'.toList) && allM F F')))))
theorem sameB_iff : sameB m v n has t s F m' v' n' has' t' s' F' = true ↔ (m = m' ∧ v = v' ∧ n = n' ∧ has = has' ∧ t = t' ∧ s = s' ∧ ∀ k, k < 16 → F k = F' k) := by
  have hs : s.toList = s'.toList ↔ s = s' := by
    rw [ByteArray.toList_eq, ByteArray.toList_eq]
    constructor
    · intro h
      apply ByteArray.ext
      exact Array.toList_inj.1 h
    · intro h; rw [h]
  simp only [sameB, allM, Bool.and_eq_true, decide_eq_true_eq, hs, List.all_eq_true, List.mem_range, beq_iff_eq]
set_option maxHeartbeats 2000000 in
set_option maxRecDepth 20000 in
theorem eql_chan (w : World) : (binOp .eql 57 (.agg (chan m v n has t s F)) (.agg (chan m' v' n' has' t' s' F'))).run Try.prog w = .ok (.bool (sameB m v n has t s F m' v' n' has' t' s' F')) w := by
  obtain ⟨i4, hi4⟩ := info4
  have hc : Try.prog.cellsOf 4 = 1 := by kernel_rfl
  have HA : ∀ w : World, (Op.equalIn 9999 51 (.agg (mks F)) (.agg (mks F'))).run Try.prog w = .ok (allM F F') w := fun w => by
    rw [run_equalIn_array w 9998 (mks F) (mks F') Try.underlying51 hi4, hc]
    exact mks_eq 9997 F F' w _ fun k hk => List.mem_range.1 hk
  simp only [mks] at HA
  rw [run_eql_struct, run_equalIn_agg (ht := by kernel_rfl) (hp := by kernel_rfl), eqFields57]
  simp only [Op.eqFields, fld]
  simp [part, go_sem, chan, HA]
  unfold sameB
  by_cases h1 : m = m'
  · by_cases h2 : v = v'
    · by_cases h3 : n = n'
      · by_cases h4 : has = has'
        · by_cases h5 : t = t'
          · by_cases h6 : s.toList = s'.toList
            · simp only [h1, h2, h3, h4, h5, h6, if_true, decide_true, Bool.true_and]
              cases allM F F' <;> simp
            · simp [h1, h2, h3, h4, h5, h6]
          · simp [h1, h2, h3, h4, h5]
        · simp [h1, h2, h3, h4]
      · simp [h1, h2, h3]
    · simp [h1, h2]
  · simp [h1]
end
end Go.Proofs.Ytgicehhenahfpaa
