/- same, of. -/
import Derived.Test.YtilfhkagfjdfkaaED
import Derived.Laws.StructEq
import Derived.ChangeKeysEq
set_option linter.unusedVariables false
set_option linter.unusedSimpArgs false
namespace Go.Proofs.Ytilfhkagfjdfkaa
open Go.RowKit
attribute [local go_sem] Oper.semAt_some
theorem eqFields_map (d : Nat) (xs ys : Array Value) : ∀ (l k : List Field), l.map (fun f => (f.name, f.type, f.offset)) = k.map (fun f => (f.name, f.type, f.offset)) → Op.eqFields d xs ys l = Op.eqFields d xs ys k
  | [], [], _ => rfl
  | [], f :: k, h => by cases h
  | f :: l, [], h => by cases h
  | f :: l, g :: k, h => by
    simp only [List.map_cons, List.cons.injEq, Prod.mk.injEq] at h
    obtain ⟨⟨h1, h2, h3⟩, h4⟩ := h
    simp only [Op.eqFields, h1, h2, h3, eqFields_map d xs ys l k h4]
def fld (n : String) (t o : Nat) : Field := { name := n, type := t, offset := o, embedded := false, tag := "", pkgPath := "", byteOffset := 0 }
theorem fields46 : (Try.prog.fieldsOf 46).toList.map (fun f => (f.name, f.type, f.offset)) = [("T", 44, 0), ("Guest", 5, 1), ("Kind", 5, 2), ("Value", 44, 3)] := by kernel_rfl
theorem eqFields46 (d : Nat) (xs ys : Array Value) : Op.eqFields d xs ys (Try.prog.fieldsOf 46).toList = Op.eqFields d xs ys [fld "T" 44 0, fld "Guest" 5 1, fld "Kind" 5 2, fld "Value" 44 3] :=
  eqFields_map d xs ys _ _ (by rw [fields46]; rfl)
theorem fields33 : (Try.prog.fieldsOf 33).toList.map (fun f => (f.name, f.type, f.offset)) = [("N", 3, 0), ("Why", 5, 1)] := by kernel_rfl
theorem eqFields33 (d : Nat) (xs ys : Array Value) : Op.eqFields d xs ys (Try.prog.fieldsOf 33).toList = Op.eqFields d xs ys [fld "N" 3 0, fld "Why" 5 1] :=
  eqFields_map d xs ys _ _ (by rw [fields33]; rfl)
theorem int_eq (a b : Nat) : ((a : Int) = (b : Int)) = (a = b) := by simp [Int.natCast_inj]
theorem equal_ev (a b : Ev) (w : World) : (Op.equalIn 10000 46 (.agg (evA a)) (.agg (evA b))).run Try.prog w = .ok (decide (a = b)) w := by
  obtain ⟨t, g, k, v⟩ := a
  obtain ⟨t', g', k', v'⟩ := b
  rw [run_equalIn_agg (ht := by kernel_rfl) (hp := by kernel_rfl), eqFields46]
  simp only [Op.eqFields, fld]
  simp [part, go_sem]
  by_cases h1 : t = t'
  · by_cases h2 : g = g'
    · by_cases h3 : k = k'
      · by_cases h4 : v = v'
        · simp [h1, h2, h3, h4]
        · simp [h1, h2, h3, h4]; try omega
      · simp [h1, h2, h3]; try (intros; omega)
    · simp [h1, h2]; try (intros; omega)
  · simp [h1]; try (intros; omega)
theorem eql_ev (a b : Ev) (w : World) : (binOp .eql 46 (.agg (evA a)) (.agg (evA b))).run Try.prog w = .ok (.bool (decide (a = b))) w := by
  rw [run_eql_struct, equal_ev]; rfl
theorem neq_ev (a b : Ev) (w : World) : (binOp .neq 46 (.agg (evA a)) (.agg (evA b))).run Try.prog w = .ok (.bool (!decide (a = b))) w := by
  rw [run_neq_struct, equal_ev]; rfl
theorem eql_dr (n y n' y' : Nat) (w : World) : (binOp .eql 33 (.agg #[.int .i64 n, .int .u8 y]) (.agg #[.int .i64 n', .int .u8 y'])).run Try.prog w = .ok (.bool (decide (n = n' ∧ y = y'))) w := by
  rw [run_eql_struct, run_equalIn_agg (ht := by kernel_rfl) (hp := by kernel_rfl), eqFields33]
  simp only [Op.eqFields, fld]
  simp [part, go_sem]
  by_cases h1 : n = n'
  · by_cases h2 : y = y'
    · simp [h1, h2]
    · simp [h1, h2]; try omega
  · simp [h1]; try (intros; omega)
theorem wpQuiet_mid {P : Program} {ops : Array Oper} {rest : List Oper} {C : World → Prop} {Q : Act → Prop} {o : Oper} {a : Act} (hw : Region.wanted o (yielded ops a.tmps) = true) (ty : TypeId) (x : Operand) (ho : o.op = .load ty x)
    (b off : Nat) (hx : a.eval x = .pointer (some ⟨b, off, none⟩)) (cs : List Value) (d : TypeDesc) (hg : ∀ w, C w → w.rangeAt b off cs)
    (hu : P.underlying ty = some d) (hd : d.isRow = true) (hi : (P.info? ty).map (·.size) = some cs.length)
    (h : wpQuiet P ops C Q rest (a.put o.dst (.agg cs.toArray))) : wpQuiet P ops C Q (o :: rest) a :=
  BigFrame.wpQuiet_want hw fun K hK => ⟨.agg cs.toArray, fun w hw => by
    unfold Oper.quietAt execOp
    simp only [ho, hx, Instr.loadAt, Instr.sureAddr, Sem.run_bind, Sem.run_pure, Result.andThen_ok, run_loadVar_mid w b off ty cs d (hg w hw) hu hd hi]
    exact ⟨rfl, rfl⟩, hK _ h⟩
set_option maxHeartbeats 4000000 in
set_option maxRecDepth 100000 in
theorem same_any (w : World) (v1 v2 : Value) (l1 l2 : List Ev) (h1 : IsEvs w v1 l1) (h2 : IsEvs w v2 l2) (hl : l1.length ≤ 1000000) : Calls Try.prog 13 #[v1, v2] w fun e w' => e = .returned (.bool (decide (l1 = l2))) ∧ Below w.heap.size w w' := by
  obtain ⟨a1, cap1, rfl, hw1, hc1⟩ := h1
  obtain ⟨a2, cap2, rfl, hw2, hc2⟩ := h2
  have C1 := Lib.hid hc1
  have C2 := Lib.hid hc2
  clear hc1 hc2 hw1 hw2
  by_cases hlen : l1.length = l2.length
  · have HLN := Lib.hid hlen
    obtain ⟨len, hle⟩ : ∃ len, l1.length = len := ⟨_, rfl⟩
    have HL := Lib.hid hle
    rw [← hlen, hle]
    clear hlen hle
    have hne : ((len : Int) != (len : Int)) = false := bne_self_eq_false _
    have hl' : len ≤ 1000000 := by rw [← HL.out]; exact hl
    clear hl
    go_enter Try.func13, Try.ntmps13
    go_wp2
    go_loopw [5] (fun i wr => ∃ k : Nat, k ≤ len ∧ i = .int .i64 k ∧ l1.take k = l2.take k ∧ ∃ j, wr = w.drewN j) (fun i _ => len - (intOf i).toNat)
    case atStart => exact ⟨0, Nat.zero_le _, rfl, rfl, 0, (World.drewN_zero _).symm⟩
    case round =>
      obtain ⟨k, hk, rfl, htk, j0, rfl⟩ := hrel
      have k1 : (0 : Int) ≤ (k : Int) := Int.natCast_nonneg _
      by_cases hlt : k < len
      · have k2 : (k : Int) < (len : Int) := by omega
        obtain ⟨e1, he1⟩ : ∃ e, l1[k]? = some e := ⟨_, List.getElem?_eq_getElem (by rw [HL.out]; exact hlt)⟩
        obtain ⟨e2, he2⟩ : ∃ e, l2[k]? = some e := ⟨_, List.getElem?_eq_getElem (by rw [← HLN.out, HL.out]; exact hlt)⟩
        obtain ⟨b1, o1, rfl, hb1, hr1⟩ := C1.out k e1 he1
        obtain ⟨b2, o2, rfl, hb2, hr2⟩ := C2.out k e2 he2
        have R1 : Hid (∀ j, ((w.drewN j0).drewN j).rangeAt b1 (o1 + k * 4) (evL e1)) := Lib.hid fun j => hr1
        have R2 : Hid (∀ j, ((w.drewN j0).drewN j).rangeAt b2 (o2 + k * 4) (evL e2)) := Lib.hid fun j => hr2
        have HT := Lib.hid (And.intro htk (And.intro he1 he2))
        have rn : ∀ w, (binOp .neq 46 (.agg (evL e1).toArray) (.agg (evL e2).toArray)).run Try.prog w = .ok (.bool (!decide (e1 = e2))) w := fun w => neq_ev e1 e2 w
        have hdr : Hid (∀ j, ∃ i, (w.drewN j0).drewN j = w.drewN i) := Lib.hid fun j => ⟨j0 + j, by rw [World.drewN_drewN]⟩
        clear htk he1 he2 hb1 hb2 hr1 hr2
        by_cases hee : e1 = e2
        · have hd : (!decide (e1 = e2)) = false := by simp [hee]
          rw [hd] at rn
          have HE := Lib.hid hee
          clear hee hd
          go_wp2
          refine wp_region_quiet_lit (by kernel_rfl) (by kernel_rfl) ?_
          repeat (first
            | (refine wpQuiet_mid (by rfl) 46 _ rfl b1 (o1 + k * 4) rfl (evL e1) _ (fun w' hw' => by obtain ⟨j, rfl⟩ := hw'; exact R1.out j) Try.underlying46 rfl rfl ?_; simp only [Act.put, List.setIfInBounds_toArray, List.set_cons_zero, List.set_cons_succ])
            | (refine wpQuiet_mid (by rfl) 46 _ rfl b2 (o2 + k * 4) rfl (evL e2) _ (fun w' hw' => by obtain ⟨j, rfl⟩ := hw'; exact R2.out j) Try.underlying46 rfl rfl ?_; simp only [Act.put, List.setIfInBounds_toArray, List.set_cons_zero, List.set_cons_succ])
            | go_big_quiet_step (fail))
          refine wpQuiet_nil ?_
          intro w9 hw9
          obtain ⟨nq, hw9⟩ := hw9
          subst hw9
          go_wp2
          go_roundw
          case rel => exact ⟨k + 1, by omega, by go_num, by rw [List.take_add_one, List.take_add_one, HT.out.1, HT.out.2.1, HT.out.2.2, HE.out], j0 + nq, rfl⟩
          case measure => simp [intOf]; omega
        · have hd : (!decide (e1 = e2)) = true := by simp [hee]
          rw [hd] at rn
          have hnl : decide (l1 = l2) = false := decide_eq_false (fun q => by
            have h5 := HT.out.2.1
            rw [q, HT.out.2.2] at h5
            exact hee (Option.some.inj h5).symm)
          have HNL := Lib.hid hnl
          clear hee hd hnl
          go_wp2
          refine wp_region_quiet_lit (by kernel_rfl) (by kernel_rfl) ?_
          repeat (first
            | (refine wpQuiet_mid (by rfl) 46 _ rfl b1 (o1 + k * 4) rfl (evL e1) _ (fun w' hw' => by obtain ⟨j, rfl⟩ := hw'; exact R1.out j) Try.underlying46 rfl rfl ?_; simp only [Act.put, List.setIfInBounds_toArray, List.set_cons_zero, List.set_cons_succ])
            | (refine wpQuiet_mid (by rfl) 46 _ rfl b2 (o2 + k * 4) rfl (evL e2) _ (fun w' hw' => by obtain ⟨j, rfl⟩ := hw'; exact R2.out j) Try.underlying46 rfl rfl ?_; simp only [Act.put, List.setIfInBounds_toArray, List.set_cons_zero, List.set_cons_succ])
            | go_big_quiet_step (fail))
          refine wpQuiet_nil ?_
          intro w9 hw9
          obtain ⟨nq, hw9⟩ := hw9
          subst hw9
          go_wp2
          go_ret
          obtain ⟨i, hi⟩ := hdr.out nq
          exact ⟨by rw [HNL.out]; rfl, by rw [hi]; exact below_drawn (Below.refl _ _) i⟩
      · obtain rfl : k = len := by omega
        have heq : decide (l1 = l2) = true := decide_eq_true (by
          rw [← HL.out, List.take_length, HLN.out, List.take_length] at htk
          exact htk)
        have HEQ := Lib.hid heq
        clear htk heq
        have HBJ : Hid (Below w.heap.size w (w.drewN j0)) := Lib.hid (below_drawn (Below.refl _ _) j0)
        go_wp2
        go_ret
        exact ⟨by rw [HEQ.out]; rfl, HBJ.out⟩
  · have hne : ((l1.length : Int) != (l2.length : Int)) = true := bne_iff_ne.2 (by omega)
    have heq : decide (l1 = l2) = false := decide_eq_false (fun q => hlen (by rw [q]))
    rw [heq]
    clear hlen heq
    go_enter Try.func13, Try.ntmps13
    go_wp2
    go_ret
    exact ⟨rfl, Below.refl _ _⟩
end Go.Proofs.Ytilfhkagfjdfkaa
