/- awake: some of the chapter's answers. -/
import Derived.Test.YtilfhkagfjdfkaaEF
import Derived.RangeFuncBox
set_option linter.unusedVariables false
set_option linter.unusedSimpArgs false
namespace Go.Proofs.Ytilfhkagfjdfkaa
open Go.RowKit
attribute [local go_sem] Oper.semAt_some
/-- The chapter's events. -/
def giv : List Ev := [⟨5, 1, 1, 97⟩, ⟨4, 1, 1, 98⟩, ⟨5, 2, 1, 1⟩, ⟨6, 0, 2, 9⟩, ⟨7, 0, 2, 7⟩, ⟨9, 1, 3, 3⟩]
theorem giv_wf : ∀ e ∈ giv, e.wf := by
  intro e he
  simp only [giv, List.mem_cons, List.not_mem_nil, or_false] at he
  rcases he with rfl | rfl | rfl | rfl | rfl | rfl <;> exact ⟨by decide, by decide, by decide, by decide⟩
theorem giv_K : parK 2 (buildL giv ++ [97, 98, 99]) = [⟨5, 1, 1, 97⟩, ⟨6, 0, 2, 9⟩, ⟨9, 1, 3, 3⟩] := by decide +kernel
theorem giv_D : parD 2 (buildL giv ++ [97, 98, 99]) = [⟨1, 3⟩, ⟨2, 2⟩, ⟨4, 1⟩, ⟨6, 1⟩] := by decide +kernel
theorem str_data (l : List UInt8) : (str l).data.toList = l := rfl
theorem str_size (l : List UInt8) : (str l).size = l.length := by
  show l.toArray.size = _
  simp
abbrev gcs : Array Value := #[.int .u32 5, .int .u8 1, .int .u8 1, .int .u32 97, .int .u32 4, .int .u8 1, .int .u8 1, .int .u32 98, .int .u32 5, .int .u8 2, .int .u8 1, .int .u32 1, .int .u32 6, .int .u8 0, .int .u8 2, .int .u32 9, .int .u32 7, .int .u8 0, .int .u8 2, .int .u32 7, .int .u32 9, .int .u8 1, .int .u8 3, .int .u32 3]
theorem given_any (w : World) : Calls Try.prog 22 #[] w fun e w' => e = .returned (.slice (some ⟨w.heap.size, 0, none⟩) 6 6) ∧ w.alloc (.cells gcs 46) = w' := by
  go_enter Try.func22, Try.ntmps22
  go_wp2
  go_ret
  exact ⟨rfl, rfl⟩
theorem own_range {w : World} {base g cap : Nat} {l : List Ev} (h : w.ownsRow base 46 4 (.slice (some ⟨g, 0, none⟩) l.length cap) l.length (evs l)) (k : Nat) (e : Ev) (hk : l[k]? = some e) : w.rangeAt g (k * 4) (evL e) := fun j u hj => by
  have hkl := (List.getElem?_eq_some_iff.1 hk).1
  have hj4 : j < 4 := (List.getElem?_eq_some_iff.1 hj).1
  rw [World.ownsRow.cellAt h (k * 4 + j) (by omega), evs_at l k e hk j hj4]
  exact hj
theorem own_rangeD {w : World} {base g cap : Nat} {l : List Dr} (h : w.ownsRow base 33 2 (.slice (some ⟨g, 0, none⟩) l.length cap) l.length (drs l)) (k : Nat) (e : Dr) (hk : l[k]? = some e) : w.rangeAt g (k * 2) (drL e) := fun j u hj => by
  have hkl := (List.getElem?_eq_some_iff.1 hk).1
  have hj4 : j < 2 := (List.getElem?_eq_some_iff.1 hj).1
  rw [World.ownsRow.cellAt h (k * 2 + j) (by omega), drs_at l k e hk j hj4]
  exact hj
theorem giv_cells : gcs.toList = evs giv := by kernel_rfl
theorem giv_at (k : Nat) (e : Ev) (hk : giv[k]? = some e) (j : Nat) (u : Value) (hj : (evL e)[j]? = some u) : gcs[k * 4 + j]? = some u := by
  have hj4 : j < 4 := (List.getElem?_eq_some_iff.1 hj).1
  rw [← Array.getElem?_toList, giv_cells, evs_at giv k e hk j hj4]
  exact hj
set_option maxHeartbeats 8000000 in
set_option maxRecDepth 100000 in
theorem awake_any (w : World) : Calls Try.prog 10 #[] w fun e w' => e = .returned (.bool true) ∧ Below w.heap.size w w' := by
  have hG := Box.made w 46 gcs
  have T1 : Hid (Below w.heap.size w (w.alloc (.cells gcs 46)) ∧ Box (w.alloc (.cells gcs 46)) w.heap.size 46 gcs) := Lib.hid ⟨(Below.refl _ _).alloc (Nat.le_refl _) _, hG⟩
  have hev : IsEvs (w.alloc (.cells gcs 46)) (.slice (some ⟨w.heap.size, 0, none⟩) 6 6) giv := ⟨_, _, rfl, giv_wf, fun k e hk => ⟨w.heap.size, 0, rfl, hG.inHeap, fun j u hj => by
    rw [hG.read]
    have hkl := (List.getElem?_eq_some_iff.1 hk).1
    have hjl := (List.getElem?_eq_some_iff.1 hj).1
    have hk6 : k < 6 := hkl
    have hj4 : j < 4 := hjl
    rcases k with _ | _ | _ | _ | _ | _ | k
    all_goals try omega
    all_goals
      simp [giv] at hk
      subst hk
      rcases j with _ | _ | _ | _ | j
      all_goals try omega
      all_goals (simpa [evL, gcs] using hj)⟩⟩
  have HB := Lib.hid (build_any _ _ _ hev (by decide))
  have hsa : Hid (str (buildL giv) ++ ⟨#[97, 98, 99]⟩ = str (buildL giv ++ [97, 98, 99])) := Lib.hid (by apply ByteArray.ext; simp [str])
  have HP := Lib.hid fun W => parse_any (str (buildL giv ++ [97, 98, 99])) (by rw [str_size]; decide +kernel) 2 W
  have hz : ¬ 9223372036854775807 < (str (buildL giv)).size + 3 := by rw [str_size]; decide +kernel
  clear hG hev
  go_enter Try.func10, Try.ntmps10
  go_wp2_with fail
  refine (given_any w).mono ?_
  rintro e w1 ⟨rfl, hw1⟩
  rw [hw1] at HB T1
  clear hw1
  go_wp2_with fail
  refine HB.out.mono ?_
  rintro e w2 ⟨rfl, hb2⟩
  have T2 := Lib.hid (And.intro (T1.out.1.trans (hb2.mono T1.out.1.size)) (T1.out.2.over hb2 T1.out.2.inHeap))
  clear hb2 HB T1
  go_wp2_with fail
  rw [hsa.out]
  refine (HP.out _).mono ?_
  rintro e w3 ⟨vk, vd, rfl, hk, hd, hb3⟩
  rw [str_data, giv_K] at hk
  rw [str_data, giv_D] at hd
  have T3 := Lib.hid (And.intro (T2.out.1.trans (hb3.mono T2.out.1.size)) (T2.out.2.over hb3 T2.out.2.inHeap))
  clear hb3 T2 HP hsa hz
  obtain ⟨g1, cp1, rfl⟩ := ownsRow_succ (k := 2) hk
  obtain ⟨g2, cp2, rfl⟩ := ownsRow_succ (k := 3) hd
  have K0 : Hid (∀ j, (w3.drewN j).rangeAt g1 0 (evL (⟨5, 1, 1, 97⟩ : Ev))) := Lib.hid fun j => own_range hk 0 (⟨5, 1, 1, 97⟩ : Ev) rfl
  have G0 : Hid (∀ j, (w3.drewN j).rangeAt w.heap.size 0 (evL (⟨5, 1, 1, 97⟩ : Ev))) := Lib.hid fun j i v hv => by rw [show (w3.drewN j).cell? ⟨w.heap.size, 0 + i, none⟩ = w3.cell? ⟨w.heap.size, 0 + i, none⟩ from rfl, T3.out.2.read]; exact giv_at 0 (⟨5, 1, 1, 97⟩ : Ev) rfl i v hv
  have e0 : ∀ w, (binOp .eql 46 (.agg (evL (⟨5, 1, 1, 97⟩ : Ev)).toArray) (.agg (evL (⟨5, 1, 1, 97⟩ : Ev)).toArray)).run Try.prog w = .ok (.bool true) w := fun w => (eql_ev _ _ w).trans (by rw [decide_eq_true rfl])
  have K1 : Hid (∀ j, (w3.drewN j).rangeAt g1 4 (evL (⟨6, 0, 2, 9⟩ : Ev))) := Lib.hid fun j => own_range hk 1 (⟨6, 0, 2, 9⟩ : Ev) rfl
  have G1 : Hid (∀ j, (w3.drewN j).rangeAt w.heap.size 12 (evL (⟨6, 0, 2, 9⟩ : Ev))) := Lib.hid fun j i v hv => by rw [show (w3.drewN j).cell? ⟨w.heap.size, 12 + i, none⟩ = w3.cell? ⟨w.heap.size, 12 + i, none⟩ from rfl, T3.out.2.read]; exact giv_at 3 (⟨6, 0, 2, 9⟩ : Ev) rfl i v hv
  have e1 : ∀ w, (binOp .eql 46 (.agg (evL (⟨6, 0, 2, 9⟩ : Ev)).toArray) (.agg (evL (⟨6, 0, 2, 9⟩ : Ev)).toArray)).run Try.prog w = .ok (.bool true) w := fun w => (eql_ev _ _ w).trans (by rw [decide_eq_true rfl])
  have K2 : Hid (∀ j, (w3.drewN j).rangeAt g1 8 (evL (⟨9, 1, 3, 3⟩ : Ev))) := Lib.hid fun j => own_range hk 2 (⟨9, 1, 3, 3⟩ : Ev) rfl
  have G2 : Hid (∀ j, (w3.drewN j).rangeAt w.heap.size 20 (evL (⟨9, 1, 3, 3⟩ : Ev))) := Lib.hid fun j i v hv => by rw [show (w3.drewN j).cell? ⟨w.heap.size, 20 + i, none⟩ = w3.cell? ⟨w.heap.size, 20 + i, none⟩ from rfl, T3.out.2.read]; exact giv_at 5 (⟨9, 1, 3, 3⟩ : Ev) rfl i v hv
  have e2 : ∀ w, (binOp .eql 46 (.agg (evL (⟨9, 1, 3, 3⟩ : Ev)).toArray) (.agg (evL (⟨9, 1, 3, 3⟩ : Ev)).toArray)).run Try.prog w = .ok (.bool true) w := fun w => (eql_ev _ _ w).trans (by rw [decide_eq_true rfl])
  have D0 : Hid (∀ j, (w3.drewN j).rangeAt g2 0 (drL ⟨1, 3⟩)) := Lib.hid fun j => own_rangeD hd 0 ⟨1, 3⟩ rfl
  have f0 : ∀ w, (binOp .eql 33 (.agg (drL ⟨1, 3⟩).toArray) (.agg #[.int .i64 1, .int .u8 3])).run Try.prog w = .ok (.bool true) w := fun w => (eql_dr 1 3 1 3 w).trans (by rw [decide_eq_true ⟨rfl, rfl⟩])
  have D1 : Hid (∀ j, (w3.drewN j).rangeAt g2 6 (drL ⟨6, 1⟩)) := Lib.hid fun j => own_rangeD hd 3 ⟨6, 1⟩ rfl
  have f1 : ∀ w, (binOp .eql 33 (.agg (drL ⟨6, 1⟩).toArray) (.agg #[.int .i64 6, .int .u8 1])).run Try.prog w = .ok (.bool true) w := fun w => (eql_dr 6 1 6 1 w).trans (by rw [decide_eq_true ⟨rfl, rfl⟩])
  have T4 := Lib.hid fun j => below_drawn T3.out.1 j
  clear hk hd T3
  go_wp2
  refine wp_region_quiet_lit (by kernel_rfl) (by kernel_rfl) ?_
  repeat (first
    | (refine wpQuiet_mid (by rfl) 46 _ rfl g1 0 rfl (evL (⟨5, 1, 1, 97⟩ : Ev)) _ (fun w' hw' => by obtain ⟨j, rfl⟩ := hw'; exact K0.out j) Try.underlying46 rfl rfl ?_; simp only [Act.put, List.setIfInBounds_toArray, List.set_cons_zero, List.set_cons_succ])
    | (refine wpQuiet_mid (by rfl) 46 _ rfl w.heap.size 0 rfl (evL (⟨5, 1, 1, 97⟩ : Ev)) _ (fun w' hw' => by obtain ⟨j, rfl⟩ := hw'; exact G0.out j) Try.underlying46 rfl rfl ?_; simp only [Act.put, List.setIfInBounds_toArray, List.set_cons_zero, List.set_cons_succ])
    | (refine wpQuiet_mid (by rfl) 46 _ rfl g1 4 rfl (evL (⟨6, 0, 2, 9⟩ : Ev)) _ (fun w' hw' => by obtain ⟨j, rfl⟩ := hw'; exact K1.out j) Try.underlying46 rfl rfl ?_; simp only [Act.put, List.setIfInBounds_toArray, List.set_cons_zero, List.set_cons_succ])
    | (refine wpQuiet_mid (by rfl) 46 _ rfl w.heap.size 12 rfl (evL (⟨6, 0, 2, 9⟩ : Ev)) _ (fun w' hw' => by obtain ⟨j, rfl⟩ := hw'; exact G1.out j) Try.underlying46 rfl rfl ?_; simp only [Act.put, List.setIfInBounds_toArray, List.set_cons_zero, List.set_cons_succ])
    | (refine wpQuiet_mid (by rfl) 46 _ rfl g1 8 rfl (evL (⟨9, 1, 3, 3⟩ : Ev)) _ (fun w' hw' => by obtain ⟨j, rfl⟩ := hw'; exact K2.out j) Try.underlying46 rfl rfl ?_; simp only [Act.put, List.setIfInBounds_toArray, List.set_cons_zero, List.set_cons_succ])
    | (refine wpQuiet_mid (by rfl) 46 _ rfl w.heap.size 20 rfl (evL (⟨9, 1, 3, 3⟩ : Ev)) _ (fun w' hw' => by obtain ⟨j, rfl⟩ := hw'; exact G2.out j) Try.underlying46 rfl rfl ?_; simp only [Act.put, List.setIfInBounds_toArray, List.set_cons_zero, List.set_cons_succ])
    | (refine wpQuiet_mid (by rfl) 33 _ rfl g2 0 rfl (drL ⟨1, 3⟩) _ (fun w' hw' => by obtain ⟨j, rfl⟩ := hw'; exact D0.out j) Try.underlying33 rfl rfl ?_; simp only [Act.put, List.setIfInBounds_toArray, List.set_cons_zero, List.set_cons_succ])
    | (refine wpQuiet_mid (by rfl) 33 _ rfl g2 6 rfl (drL ⟨6, 1⟩) _ (fun w' hw' => by obtain ⟨j, rfl⟩ := hw'; exact D1.out j) Try.underlying33 rfl rfl ?_; simp only [Act.put, List.setIfInBounds_toArray, List.set_cons_zero, List.set_cons_succ])
    | go_big_quiet_step (fail))
  refine wpQuiet_nil ?_
  intro w9 hw9
  obtain ⟨nq, hw9⟩ := hw9
  subst hw9
  go_wp2
  go_ret
  exact ⟨rfl, T4.out nq⟩
end Go.Proofs.Ytilfhkagfjdfkaa
