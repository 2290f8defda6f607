/- Two PLICs' structs compared: the program's, and the document's. -/
import Derived.Test.YtlgefljbhbefgaaDoorFa
import Derived.Laws.StructEq
import Derived.ChangeKeysEq
set_option linter.unusedVariables false
set_option linter.unusedSimpArgs false
namespace Go.Proofs.YtlgefljbhbefgaaDoor
open Go.RowKit
theorem eqFields_map (d : Nat) (xs ys : Array Value) : ∀ (l k : List Field), l.map (fun f => (f.name, f.type, f.offset)) = k.map (fun f => (f.name, f.type, f.offset)) → Op.eqFields d xs ys l = Op.eqFields d xs ys k
  | [], [], _ => rfl
  | [], f :: k, h => by cases h
  | f :: l, [], h => by cases h
  | f :: l, g :: k, h => by
    simp only [List.map_cons, List.cons.injEq, Prod.mk.injEq] at h
    obtain ⟨⟨h1, h2, h3⟩, h4⟩ := h
    simp only [Op.eqFields, h1, h2, h3, eqFields_map d xs ys l k h4]
def fld (n : String) (t o : Nat) : Field := { name := n, type := t, offset := o, embedded := false, tag := "", pkgPath := "", byteOffset := 0 }
theorem fields58 : (Tryd.prog.fieldsOf 58).toList.map (fun f => (f.name, f.type, f.offset)) = [("made", 4, 0), ("sources", 53, 1), ("contexts", 56, 33)] := by kernel_rfl
theorem eqFields58 (d : Nat) (xs ys : Array Value) : Op.eqFields d xs ys (Tryd.prog.fieldsOf 58).toList = Op.eqFields d xs ys [fld "made" 4 0, fld "sources" 53 1, fld "contexts" 56 33] :=
  eqFields_map d xs ys _ _ (by rw [fields58]; rfl)
theorem fields52 : (Tryd.prog.fieldsOf 52).toList.map (fun f => (f.name, f.type, f.offset)) = [("priority", 5, 0), ("high", 4, 1), ("pending", 4, 2), ("serving", 4, 3)] := by kernel_rfl
theorem eqFields52 (d : Nat) (xs ys : Array Value) : Op.eqFields d xs ys (Tryd.prog.fieldsOf 52).toList = Op.eqFields d xs ys [fld "priority" 5 0, fld "high" 4 1, fld "pending" 4 2, fld "serving" 4 3] :=
  eqFields_map d xs ys _ _ (by rw [fields52]; rfl)
theorem fields55 : (Tryd.prog.fieldsOf 55).toList.map (fun f => (f.name, f.type, f.offset)) = [("enabled", 5, 0), ("threshold", 5, 1)] := by kernel_rfl
theorem eqFields55 (d : Nat) (xs ys : Array Value) : Op.eqFields d xs ys (Tryd.prog.fieldsOf 55).toList = Op.eqFields d xs ys [fld "enabled" 5 0, fld "threshold" 5 1] :=
  eqFields_map d xs ys _ _ (by rw [fields55]; rfl)
theorem fields32 : (Tryd.prog.fieldsOf 32).toList.map (fun f => (f.name, f.type, f.offset)) = [("Priority", 27, 0), ("High", 28, 8), ("Pending", 28, 16), ("Serving", 28, 24), ("Enabled", 29, 32), ("Threshold", 30, 48)] := by kernel_rfl
theorem eqFields32 (d : Nat) (xs ys : Array Value) : Op.eqFields d xs ys (Tryd.prog.fieldsOf 32).toList = Op.eqFields d xs ys [fld "Priority" 27 0, fld "High" 28 8, fld "Pending" 28 16, fld "Serving" 28 24, fld "Enabled" 29 32, fld "Threshold" 30 48] :=
  eqFields_map d xs ys _ _ (by rw [fields32]; rfl)
/-- Eight numbers, two numbers. -/
def ns8 (F : Nat → Nat) : Array Value := #[.int .i64 (F 0), .int .i64 (F 1), .int .i64 (F 2), .int .i64 (F 3), .int .i64 (F 4), .int .i64 (F 5), .int .i64 (F 6), .int .i64 (F 7)]
def ns2 (F : Nat → Nat) : Array Value := #[.int .i64 (F 0), .int .i64 (F 1)]
/-- Eight sources, two contexts. -/
def sr8 (F : PS) : Array Value := #[.int .u8 (F.pr 0), .bool (F.hi 0), .bool (F.pe 0), .bool (F.se 0), .int .u8 (F.pr 1), .bool (F.hi 1), .bool (F.pe 1), .bool (F.se 1), .int .u8 (F.pr 2), .bool (F.hi 2), .bool (F.pe 2), .bool (F.se 2), .int .u8 (F.pr 3), .bool (F.hi 3), .bool (F.pe 3), .bool (F.se 3), .int .u8 (F.pr 4), .bool (F.hi 4), .bool (F.pe 4), .bool (F.se 4), .int .u8 (F.pr 5), .bool (F.hi 5), .bool (F.pe 5), .bool (F.se 5), .int .u8 (F.pr 6), .bool (F.hi 6), .bool (F.pe 6), .bool (F.se 6), .int .u8 (F.pr 7), .bool (F.hi 7), .bool (F.pe 7), .bool (F.se 7)]
def cx2 (F : PS) : Array Value := #[.int .u8 (F.en 0), .int .u8 (F.th 0), .int .u8 (F.en 1), .int .u8 (F.th 1)]
def bs2 (F : Nat → Nat → Bool) : Array Value := #[.bool (F 0 0), .bool (F 0 1), .bool (F 0 2), .bool (F 0 3), .bool (F 0 4), .bool (F 0 5), .bool (F 0 6), .bool (F 0 7), .bool (F 1 0), .bool (F 1 1), .bool (F 1 2), .bool (F 1 3), .bool (F 1 4), .bool (F 1 5), .bool (F 1 6), .bool (F 1 7)]
theorem ns8_part (F : Nat → Nat) (w : World) : ∀ k : Nat, k < 8 → (part 3 (ns8 F) (k * 1)).run Tryd.prog w = .ok (.int .i64 (F k)) w
  | 0, _ => by simp [part, go_sem, ns8]
  | 1, _ => by simp [part, go_sem, ns8]
  | 2, _ => by simp [part, go_sem, ns8]
  | 3, _ => by simp [part, go_sem, ns8]
  | 4, _ => by simp [part, go_sem, ns8]
  | 5, _ => by simp [part, go_sem, ns8]
  | 6, _ => by simp [part, go_sem, ns8]
  | 7, _ => by simp [part, go_sem, ns8]
  | k + 8, h => absurd h (by omega)
theorem ns8_eq (d : Nat) (F F' : Nat → Nat) (w : World) : ∀ is : List Nat, (∀ k ∈ is, k < 8) → (Op.eqItems (d + 1) 3 1 (ns8 F) (ns8 F') is).run Tryd.prog w = .ok (is.all fun k => ((F k : Nat) : Int) == ((F' k : Nat) : Int)) w
  | [], _ => by simp [Op.eqItems]
  | i :: is, h => by
    simp only [Op.eqItems, Sem.run_bind, ns8_part F w i (h i (List.mem_cons_self ..)), ns8_part F' w i (h i (List.mem_cons_self ..)), Result.andThen_ok, run_equalIn_int w d 3 _ _ _ _ Tryd.underlying3, List.all_cons]
    cases hb : (((F i : Nat) : Int) == ((F' i : Nat) : Int))
    · simp
    · simpa using ns8_eq d F F' w is fun k hk => h k (List.mem_cons_of_mem _ hk)
theorem ns2_part (F : Nat → Nat) (w : World) : ∀ k : Nat, k < 2 → (part 3 (ns2 F) (k * 1)).run Tryd.prog w = .ok (.int .i64 (F k)) w
  | 0, _ => by simp [part, go_sem, ns2]
  | 1, _ => by simp [part, go_sem, ns2]
  | k + 2, h => absurd h (by omega)
theorem ns2_eq (d : Nat) (F F' : Nat → Nat) (w : World) : ∀ is : List Nat, (∀ k ∈ is, k < 2) → (Op.eqItems (d + 1) 3 1 (ns2 F) (ns2 F') is).run Tryd.prog w = .ok (is.all fun k => ((F k : Nat) : Int) == ((F' k : Nat) : Int)) w
  | [], _ => by simp [Op.eqItems]
  | i :: is, h => by
    simp only [Op.eqItems, Sem.run_bind, ns2_part F w i (h i (List.mem_cons_self ..)), ns2_part F' w i (h i (List.mem_cons_self ..)), Result.andThen_ok, run_equalIn_int w d 3 _ _ _ _ Tryd.underlying3, List.all_cons]
    cases hb : (((F i : Nat) : Int) == ((F' i : Nat) : Int))
    · simp
    · simpa using ns2_eq d F F' w is fun k hk => h k (List.mem_cons_of_mem _ hk)
theorem bs8_part (F : Nat → Bool) (w : World) : ∀ k : Nat, k < 8 → (part 4 (bs F) (k * 1)).run Tryd.prog w = .ok (.bool (F k)) w
  | 0, _ => by simp [part, go_sem, bs]
  | 1, _ => by simp [part, go_sem, bs]
  | 2, _ => by simp [part, go_sem, bs]
  | 3, _ => by simp [part, go_sem, bs]
  | 4, _ => by simp [part, go_sem, bs]
  | 5, _ => by simp [part, go_sem, bs]
  | 6, _ => by simp [part, go_sem, bs]
  | 7, _ => by simp [part, go_sem, bs]
  | k + 8, h => absurd h (by omega)
theorem bs8_eq (d : Nat) (F F' : Nat → Bool) (w : World) : ∀ is : List Nat, (∀ k ∈ is, k < 8) → (Op.eqItems (d + 1) 4 1 (bs F) (bs F') is).run Tryd.prog w = .ok (is.all fun k => F k == F' k) w
  | [], _ => by simp [Op.eqItems]
  | i :: is, h => by
    simp only [Op.eqItems, Sem.run_bind, bs8_part F w i (h i (List.mem_cons_self ..)), bs8_part F' w i (h i (List.mem_cons_self ..)), Result.andThen_ok, run_equalIn_bool' w d 4 _ _ Tryd.underlying4, List.all_cons]
    cases hb : (F i == F' i)
    · simp
    · simpa using bs8_eq d F F' w is fun k hk => h k (List.mem_cons_of_mem _ hk)
theorem info3 : ∃ i, Tryd.prog.info? 3 = some i := Option.isSome_iff_exists.1 (by kernel_rfl)
theorem info4 : ∃ i, Tryd.prog.info? 4 = some i := Option.isSome_iff_exists.1 (by kernel_rfl)
theorem info28 : ∃ i, Tryd.prog.info? 28 = some i := Option.isSome_iff_exists.1 (by kernel_rfl)
theorem info52 : ∃ i, Tryd.prog.info? 52 = some i := Option.isSome_iff_exists.1 (by kernel_rfl)
theorem info55 : ∃ i, Tryd.prog.info? 55 = some i := Option.isSome_iff_exists.1 (by kernel_rfl)
def allB (F F' : Nat → Bool) : Bool := (List.range 8).all fun k => F k == F' k
def allN (n : Nat) (F F' : Nat → Nat) : Bool := (List.range n).all fun k => ((F k : Nat) : Int) == ((F' k : Nat) : Int)
theorem bs_equal (d : Nat) (F F' : Nat → Bool) (w : World) : (Op.equalIn (d + 2) 28 (.agg (bs F)) (.agg (bs F'))).run Tryd.prog w = .ok (allB F F') w := by
  obtain ⟨i, hi⟩ := info4
  have hc : Tryd.prog.cellsOf 4 = 1 := by kernel_rfl
  rw [run_equalIn_array w (d + 1) (bs F) (bs F') Tryd.underlying28 hi, hc]
  exact bs8_eq d F F' w _ fun k hk => List.mem_range.1 hk
theorem ns8_equal (d : Nat) (F F' : Nat → Nat) (w : World) : (Op.equalIn (d + 2) 27 (.agg (ns8 F)) (.agg (ns8 F'))).run Tryd.prog w = .ok (allN 8 F F') w := by
  obtain ⟨i, hi⟩ := info3
  have hc : Tryd.prog.cellsOf 3 = 1 := by kernel_rfl
  rw [run_equalIn_array w (d + 1) (ns8 F) (ns8 F') Tryd.underlying27 hi, hc]
  exact ns8_eq d F F' w _ fun k hk => List.mem_range.1 hk
theorem ns2_equal (d : Nat) (F F' : Nat → Nat) (w : World) : (Op.equalIn (d + 2) 30 (.agg (ns2 F)) (.agg (ns2 F'))).run Tryd.prog w = .ok (allN 2 F F') w := by
  obtain ⟨i, hi⟩ := info3
  have hc : Tryd.prog.cellsOf 3 = 1 := by kernel_rfl
  rw [run_equalIn_array w (d + 1) (ns2 F) (ns2 F') Tryd.underlying30 hi, hc]
  exact ns2_eq d F F' w _ fun k hk => List.mem_range.1 hk
theorem bb2_part (F : Nat → Nat → Bool) (w : World) : ∀ k : Nat, k < 2 → (part 28 (bs2 F) (k * 8)).run Tryd.prog w = .ok (.agg (bs (F k))) w
  | 0, _ => by simp [part, go_sem, bs2, bs]
  | 1, _ => by simp [part, go_sem, bs2, bs]
  | k + 2, h => absurd h (by omega)
theorem bb2_eq (d : Nat) (F F' : Nat → Nat → Bool) (w : World) : ∀ is : List Nat, (∀ k ∈ is, k < 2) → (Op.eqItems (d + 2) 28 8 (bs2 F) (bs2 F') is).run Tryd.prog w = .ok (is.all fun k => allB (F k) (F' k)) w
  | [], _ => by simp [Op.eqItems]
  | i :: is, h => by
    simp only [Op.eqItems, Sem.run_bind, bb2_part F w i (h i (List.mem_cons_self ..)), bb2_part F' w i (h i (List.mem_cons_self ..)), Result.andThen_ok, bs_equal d, List.all_cons]
    cases hb : (allB (F i) (F' i))
    · simp
    · simpa using bb2_eq d F F' w is fun k hk => h k (List.mem_cons_of_mem _ hk)
def allBB (F F' : Nat → Nat → Bool) : Bool := (List.range 2).all fun k => allB (F k) (F' k)
theorem bb_equal (d : Nat) (F F' : Nat → Nat → Bool) (w : World) : (Op.equalIn (d + 3) 29 (.agg (bs2 F)) (.agg (bs2 F'))).run Tryd.prog w = .ok (allBB F F') w := by
  obtain ⟨i, hi⟩ := info28
  have hc : Tryd.prog.cellsOf 28 = 8 := by kernel_rfl
  rw [run_equalIn_array w (d + 2) (bs2 F) (bs2 F') Tryd.underlying29 hi, hc]
  exact bb2_eq d F F' w _ fun k hk => List.mem_range.1 hk
/-- Is a source the same? a context? -/
def srcB (F F' : PS) (k : Nat) : Bool := ((F.pr k : Nat) : Int) == ((F'.pr k : Nat) : Int) && (F.hi k == F'.hi k && (F.pe k == F'.pe k && F.se k == F'.se k))
def conB (F F' : PS) (k : Nat) : Bool := ((F.en k : Nat) : Int) == ((F'.en k : Nat) : Int) && ((F.th k : Nat) : Int) == ((F'.th k : Nat) : Int)
theorem src_equal (d : Nat) (F F' : PS) (k : Nat) (w : World) : (Op.equalIn (d + 2) 52 (.agg #[.int .u8 (F.pr k), .bool (F.hi k), .bool (F.pe k), .bool (F.se k)]) (.agg #[.int .u8 (F'.pr k), .bool (F'.hi k), .bool (F'.pe k), .bool (F'.se k)])).run Tryd.prog w = .ok (srcB F F' k) w := by
  rw [run_equalIn_agg (ht := by kernel_rfl) (hp := by kernel_rfl), eqFields52]
  simp only [Op.eqFields, fld]
  simp [part, go_sem]
  unfold srcB
  by_cases h1 : F.pr k = F'.pr k
  · cases F.hi k <;> cases F'.hi k <;> cases F.pe k <;> cases F'.pe k <;> cases F.se k <;> cases F'.se k <;> simp [h1]
  · simp [h1, show ¬ ((F.pr k : Nat) : Int) = ((F'.pr k : Nat) : Int) by omega]
theorem con_equal (d : Nat) (F F' : PS) (k : Nat) (w : World) : (Op.equalIn (d + 2) 55 (.agg #[.int .u8 (F.en k), .int .u8 (F.th k)]) (.agg #[.int .u8 (F'.en k), .int .u8 (F'.th k)])).run Tryd.prog w = .ok (conB F F' k) w := by
  rw [run_equalIn_agg (ht := by kernel_rfl) (hp := by kernel_rfl), eqFields55]
  simp only [Op.eqFields, fld]
  simp [part, go_sem]
  unfold conB
  by_cases h1 : F.en k = F'.en k
  · by_cases h2 : F.th k = F'.th k
    · simp [h1, h2]
    · simp [h1, h2, show ¬ ((F.th k : Nat) : Int) = ((F'.th k : Nat) : Int) by omega]
  · simp [h1, show ¬ ((F.en k : Nat) : Int) = ((F'.en k : Nat) : Int) by omega]
theorem sr8_part (F : PS) (w : World) : ∀ k : Nat, k < 8 → (part 52 (sr8 F) (k * 4)).run Tryd.prog w = .ok (.agg #[.int .u8 (F.pr k), .bool (F.hi k), .bool (F.pe k), .bool (F.se k)]) w
  | 0, _ => by simp [part, go_sem, sr8]
  | 1, _ => by simp [part, go_sem, sr8]
  | 2, _ => by simp [part, go_sem, sr8]
  | 3, _ => by simp [part, go_sem, sr8]
  | 4, _ => by simp [part, go_sem, sr8]
  | 5, _ => by simp [part, go_sem, sr8]
  | 6, _ => by simp [part, go_sem, sr8]
  | 7, _ => by simp [part, go_sem, sr8]
  | k + 8, h => absurd h (by omega)
theorem sr8_eq (d : Nat) (F F' : PS) (w : World) : ∀ is : List Nat, (∀ k ∈ is, k < 8) → (Op.eqItems (d + 2) 52 4 (sr8 F) (sr8 F') is).run Tryd.prog w = .ok (is.all fun k => srcB F F' k) w
  | [], _ => by simp [Op.eqItems]
  | i :: is, h => by
    simp only [Op.eqItems, Sem.run_bind, sr8_part F w i (h i (List.mem_cons_self ..)), sr8_part F' w i (h i (List.mem_cons_self ..)), Result.andThen_ok, src_equal d, List.all_cons]
    cases hb : (srcB F F' i)
    · simp
    · simpa using sr8_eq d F F' w is fun k hk => h k (List.mem_cons_of_mem _ hk)
theorem cx2_part (F : PS) (w : World) : ∀ k : Nat, k < 2 → (part 55 (cx2 F) (k * 2)).run Tryd.prog w = .ok (.agg #[.int .u8 (F.en k), .int .u8 (F.th k)]) w
  | 0, _ => by simp [part, go_sem, cx2]
  | 1, _ => by simp [part, go_sem, cx2]
  | k + 2, h => absurd h (by omega)
theorem cx2_eq (d : Nat) (F F' : PS) (w : World) : ∀ is : List Nat, (∀ k ∈ is, k < 2) → (Op.eqItems (d + 2) 55 2 (cx2 F) (cx2 F') is).run Tryd.prog w = .ok (is.all fun k => conB F F' k) w
  | [], _ => by simp [Op.eqItems]
  | i :: is, h => by
    simp only [Op.eqItems, Sem.run_bind, cx2_part F w i (h i (List.mem_cons_self ..)), cx2_part F' w i (h i (List.mem_cons_self ..)), Result.andThen_ok, con_equal d, List.all_cons]
    cases hb : (conB F F' i)
    · simp
    · simpa using cx2_eq d F F' w is fun k hk => h k (List.mem_cons_of_mem _ hk)
theorem sr_equal (d : Nat) (F F' : PS) (w : World) : (Op.equalIn (d + 3) 53 (.agg (sr8 F)) (.agg (sr8 F'))).run Tryd.prog w = .ok ((List.range 8).all fun k => srcB F F' k) w := by
  obtain ⟨i, hi⟩ := info52
  have hc : Tryd.prog.cellsOf 52 = 4 := by kernel_rfl
  rw [run_equalIn_array w (d + 2) (sr8 F) (sr8 F') Tryd.underlying53 hi, hc]
  exact sr8_eq d F F' w _ fun k hk => List.mem_range.1 hk
theorem cx_equal (d : Nat) (F F' : PS) (w : World) : (Op.equalIn (d + 3) 56 (.agg (cx2 F)) (.agg (cx2 F'))).run Tryd.prog w = .ok ((List.range 2).all fun k => conB F F' k) w := by
  obtain ⟨i, hi⟩ := info55
  have hc : Tryd.prog.cellsOf 55 = 2 := by kernel_rfl
  rw [run_equalIn_array w (d + 2) (cx2 F) (cx2 F') Tryd.underlying56 hi, hc]
  exact cx2_eq d F F' w _ fun k hk => List.mem_range.1 hk
/-- Are two PLICs the same? -/
def allS (s t : PS) : Bool := (List.range 8).all fun k => srcB s t k
def allC (s t : PS) : Bool := (List.range 2).all fun k => conB s t k
def sameP (s t : PS) : Bool := allS s t && allC s t
def sameD (s t : DS) : Bool := allN 8 s.pr t.pr && (allB s.hi t.hi && (allB s.pe t.pe && (allB s.se t.se && (allBB s.en t.en && allN 2 s.th t.th))))
set_option maxHeartbeats 4000000 in
set_option maxRecDepth 100000 in
theorem eql_plc (s t : PS) (w : World) : (binOp .eql 58 (.agg (plc s)) (.agg (plc t))).run Tryd.prog w = .ok (.bool (sameP s t)) w := by
  have HA : ∀ w, (Op.equalIn 9999 53 (.agg (sr8 s)) (.agg (sr8 t))).run Tryd.prog w = .ok (allS s t) w := fun w => sr_equal 9996 s t w
  have HC : ∀ w, (Op.equalIn 9999 56 (.agg (cx2 s)) (.agg (cx2 t))).run Tryd.prog w = .ok (allC s t) w := fun w => cx_equal 9996 s t w
  have H4 : ∀ w, (Op.equalIn 9999 4 (.bool true) (.bool true)).run Tryd.prog w = .ok true w := fun w => run_equalIn_bool' w 9998 4 _ _ Tryd.underlying4
  have p1 : ∀ (F : PS) (w : World), (part 53 (plc F) 1).run Tryd.prog w = .ok (.agg (sr8 F)) w := fun F w => by simp [part, go_sem, plc, sr8]
  have p2 : ∀ (F : PS) (w : World), (part 56 (plc F) 33).run Tryd.prog w = .ok (.agg (cx2 F)) w := fun F w => by simp [part, go_sem, plc, cx2]
  have p0 : ∀ (F : PS) (w : World), (part 4 (plc F) 0).run Tryd.prog w = .ok (.bool true) w := fun F w => by simp [part, go_sem, plc]
  rw [run_eql_struct, run_equalIn_agg (ht := by kernel_rfl) (hp := by kernel_rfl), eqFields58]
  simp only [Op.eqFields, fld]
  simp [p0, p1, p2, H4, HA, HC]
  unfold sameP
  cases allS s t <;> cases allC s t <;> simp
set_option maxHeartbeats 4000000 in
set_option maxRecDepth 100000 in
theorem eql_dpl (s t : DS) (w : World) : (binOp .eql 32 (.agg (dpl s)) (.agg (dpl t))).run Tryd.prog w = .ok (.bool (sameD s t)) w := by
  have p0 : ∀ (F : DS) (w : World), (part 27 (dpl F) 0).run Tryd.prog w = .ok (.agg (ns8 F.pr)) w := fun F w => by simp [part, go_sem, dpl, ns8]
  have p1 : ∀ (F : DS) (w : World), (part 28 (dpl F) 8).run Tryd.prog w = .ok (.agg (bs F.hi)) w := fun F w => by simp [part, go_sem, dpl, bs]
  have p2 : ∀ (F : DS) (w : World), (part 28 (dpl F) 16).run Tryd.prog w = .ok (.agg (bs F.pe)) w := fun F w => by simp [part, go_sem, dpl, bs]
  have p3 : ∀ (F : DS) (w : World), (part 28 (dpl F) 24).run Tryd.prog w = .ok (.agg (bs F.se)) w := fun F w => by simp [part, go_sem, dpl, bs]
  have p4 : ∀ (F : DS) (w : World), (part 29 (dpl F) 32).run Tryd.prog w = .ok (.agg (bs2 F.en)) w := fun F w => by simp [part, go_sem, dpl, bs2]
  have p5 : ∀ (F : DS) (w : World), (part 30 (dpl F) 48).run Tryd.prog w = .ok (.agg (ns2 F.th)) w := fun F w => by simp [part, go_sem, dpl, ns2]
  rw [run_eql_struct, run_equalIn_agg (ht := by kernel_rfl) (hp := by kernel_rfl), eqFields32]
  have q0 : ∀ F F' w, (Op.equalIn 9999 27 (.agg (ns8 F)) (.agg (ns8 F'))).run Tryd.prog w = .ok (allN 8 F F') w := ns8_equal 9997
  have q1 : ∀ F F' w, (Op.equalIn 9999 28 (.agg (bs F)) (.agg (bs F'))).run Tryd.prog w = .ok (allB F F') w := bs_equal 9997
  have q2 : ∀ F F' w, (Op.equalIn 9999 29 (.agg (bs2 F)) (.agg (bs2 F'))).run Tryd.prog w = .ok (allBB F F') w := bb_equal 9996
  have q3 : ∀ F F' w, (Op.equalIn 9999 30 (.agg (ns2 F)) (.agg (ns2 F'))).run Tryd.prog w = .ok (allN 2 F F') w := ns2_equal 9997
  simp only [Op.eqFields, fld]
  simp [p0, p1, p2, p3, p4, p5, q0, q1, q2, q3]
  unfold sameD
  cases allN 8 s.pr t.pr <;> cases allB s.hi t.hi <;> cases allB s.pe t.pe <;> cases allB s.se t.se <;> cases allBB s.en t.en <;> cases allN 2 s.th t.th <;> simp
theorem sameP_iff {s t : PS} (hs : s.ok2) (ht : t.ok2) (hi0 : s.hi 0 = t.hi 0) (se0 : s.se 0 = t.se 0) : sameP s t = true ↔ s.eqv t := by
  simp only [sameP, allS, allC, srcB, conB, Bool.and_eq_true, List.all_eq_true, List.mem_range, beq_iff_eq]
  constructor
  · rintro ⟨h1, h2⟩
    exact ⟨fun n _ h => ⟨by have := (h1 n (by omega)).1; omega, (h1 n (by omega)).2.1, (h1 n (by omega)).2.2.1, (h1 n (by omega)).2.2.2⟩, fun c hc => ⟨by have := (h2 c hc).1; omega, by have := (h2 c hc).2; omega⟩⟩
  · rintro ⟨h1, h2⟩
    refine ⟨fun k hk => ?_, fun c hc => ⟨by rw [(h2 c hc).1], by rw [(h2 c hc).2]⟩⟩
    by_cases h0 : k = 0
    · subst h0
      exact ⟨by rw [hs.ok.pr0, ht.ok.pr0], hi0, by rw [hs.ok.pe0, ht.ok.pe0], se0⟩
    · obtain ⟨a, b, c, d⟩ := h1 k (by omega) (by omega)
      exact ⟨by rw [a], b, c, d⟩
theorem en_inj : ∀ n, n < 256 → ∀ m, m < 256 → (∀ k, k < 8 → decide (n / 2 ^ k % 2 = 1) = decide (m / 2 ^ k % 2 = 1)) → n = m := fun n hn m hm h => by
  rw [← bits_on n hn, ← bits_on m hm]
  have e : ∀ j, j ≤ 8 → bitsN (fun k => decide (n / 2 ^ k % 2 = 1)) j = bitsN (fun k => decide (m / 2 ^ k % 2 = 1)) j := fun j => by
    induction j with
    | zero => intro _; rfl
    | succ j ih => intro hj; rw [bitsN, bitsN, ih (by omega), h j (by omega)]
  exact e 8 (Nat.le_refl _)
theorem sameD_iff {s t : PS} (hs : s.ok2) (ht : t.ok2) (hi0 : s.hi 0 = t.hi 0) (se0 : s.se 0 = t.se 0) : sameD s.doc t.doc = true ↔ s.eqv t := by
  simp only [sameD, allN, allB, allBB, Bool.and_eq_true, List.all_eq_true, List.mem_range, beq_iff_eq]
  constructor
  · rintro ⟨h1, h2, h3, h4, h5, h6⟩
    exact ⟨fun n _ h => ⟨by have := h1 n (by omega); exact Int.ofNat.inj this, h2 n (by omega), h3 n (by omega), h4 n (by omega)⟩, fun c hc => ⟨en_inj _ (hs.ok.en c) _ (ht.ok.en c) (fun k hk => h5 c hc k hk), by have := h6 c hc; exact Int.ofNat.inj this⟩⟩
  · rintro ⟨h1, h2⟩
    have g : ∀ k, k < 8 → s.pr k = t.pr k ∧ s.hi k = t.hi k ∧ s.pe k = t.pe k ∧ s.se k = t.se k := fun k hk => by
      by_cases h0 : k = 0
      · subst h0
        exact ⟨by rw [hs.ok.pr0, ht.ok.pr0], hi0, by rw [hs.ok.pe0, ht.ok.pe0], se0⟩
      · exact h1 k (by omega) (by omega)
    exact ⟨fun k hk => congrArg Int.ofNat (g k hk).1, fun k hk => (g k hk).2.1, fun k hk => (g k hk).2.2.1, fun k hk => (g k hk).2.2.2, fun c hc k hk => by
      show decide (s.en c / 2 ^ k % 2 = 1) = decide (t.en c / 2 ^ k % 2 = 1)
      rw [(h2 c hc).1], fun c hc => congrArg Int.ofNat (h2 c hc).2⟩
end Go.Proofs.YtlgefljbhbefgaaDoor
