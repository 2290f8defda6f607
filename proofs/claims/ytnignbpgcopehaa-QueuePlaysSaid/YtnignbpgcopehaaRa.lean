/- alike: a queue, and the document's, of the same messages. -/
import Derived.Test.YtnignbpgcopehaaRm
import Derived.Test.YtnignbpgcopehaaY
import Derived.Test.YtnignbpgcopehaaHf
set_option linter.unusedVariables false
set_option linter.unusedSimpArgs false
namespace Go.Proofs.Ytnignbpgcopehaa
open Go.RowKit Go.Shelf
attribute [local go_sem] Oper.semAt_some
theorem results_cell1 {fn : Func} {p : Tmp} {ty : TypeId} (h : fn.results = #[.cell p ty]) (tmps : Array Value) (P : Program) (w : World) (g : Nat) (v : Value) (hp : tmps.getD p undef = .pointer (some ⟨g, 0, none⟩)) (hc : w.cell? ⟨g, 0, none⟩ = some v)
    (ha : (isAgg ty).run P w = .ok false w) :
    (results fn tmps).run P w = .ok v w := by
  have hp' : tmps[p]?.getD undef = .pointer (some ⟨g, 0, none⟩) := by simpa using hp
  simp only [results, h]
  simp [asAddr, loadVar, go_sem, hp', ha, hc, Result.andThen]
theorem ql_waiting {w : World} {B d m : Nat} {Ms : List Sm} (h : Ql w B d m Ms) : Calls Try.prog 21 #[.pointer (some ⟨B, 0, none⟩)] w fun e w' => e = .returned (.int .i64 Ms.length) ∧ Below w.heap.size w w' := by
  obtain ⟨G, f, hq, e⟩ := h
  refine (waiting_any hq).mono ?_
  rintro e' w' ⟨rfl, rfl⟩
  exact ⟨rfl, Below.refl _ _⟩
theorem ql_room {w : World} {B d m : Nat} {Ms : List Sm} (h : Ql w B d m Ms) : Calls Try.prog 20 #[.pointer (some ⟨B, 0, none⟩)] w fun e w' => e = .returned (.int .i64 (d - Ms.length : Int)) ∧ Below w.heap.size w w' := by
  obtain ⟨G, f, hq, e⟩ := h
  refine (room_any hq).mono ?_
  rintro e' w' ⟨rfl, k, rfl⟩
  exact ⟨rfl, below_drewN (Below.refl _ _) k⟩
/-- What alike holds: the boxes of its second argument and its result, the two queues. -/
structure Al (w wr : World) (X B C d m : Nat) (Ms : List Sm) (a : Option Addr) (cap : Nat) : Prop where
  rb : Box wr X 27 #[.pointer (some ⟨C, 0, none⟩)]
  res : Box wr (X + 1) 4 #[.bool false]
  q : Ql wr B d m Ms
  box : Box wr C 56 #[.slice a Ms.length cap, .int .i64 d, .int .i64 m]
  strs : Strs wr a (Ms.map (·.1))
  hc : Ms.length ≤ cap
  bel : Below w.heap.size w wr
  hX : w.heap.size ≤ X
section
variable {w wr w' : World} {X B C d m cap : Nat} {Ms : List Sm} {a : Option Addr}
theorem Al.over (h : Al w wr X B C d m Ms a cap) (k : Below wr.heap.size wr w') : Al w w' X B C d m Ms a cap :=
  ⟨h.rb.over k h.rb.inHeap, h.res.over k h.res.inHeap, h.q.over k, h.box.over k h.box.inHeap, h.strs.over k, h.hc, h.bel.trans (k.mono h.bel.size), h.hX⟩
theorem Al.r (h : Al w wr X B C d m Ms a cap) : Rq wr C d m (Ms.map (·.1)) a cap := by
  have hl : (Ms.map (·.1)).length = Ms.length := by simp
  exact ⟨box_eq h.box (by rw [hl]), h.strs, by rw [hl]; exact h.hc⟩
theorem Al.held (h : Al w wr X B C d m Ms a cap) : wr.cell? ⟨X, 0, none⟩ = some (.pointer (some ⟨C, 0, none⟩)) ∧ wr.cell? ⟨C, 0, none⟩ = some (.slice a Ms.length cap) ∧ wr.cell? ⟨C, 1, none⟩ = some (.int .i64 d) := ⟨h.rb.read 0, h.box.read 0, h.box.read 1⟩
end
set_option maxHeartbeats 2000000 in
set_option maxRecDepth 200000 in
theorem alike_any {w : World} {B C d m cap : Nat} {Ms : List Sm} {a : Option Addr} (hq : Ql w B d m Ms) (hr : Rq w C d m (Ms.map (·.1)) a cap) : Calls Try.prog 17 #[.pointer (some ⟨B, 0, none⟩), .pointer (some ⟨C, 0, none⟩)] w fun e w' => e = .returned (.bool true) ∧ Below w.heap.size w w' := by
  have hl : (Ms.map (·.1)).length = Ms.length := by simp
  have hlen := hq.len
  have HA : Hid (Al w ((w.alloc (.cells #[.pointer (some ⟨C, 0, none⟩)] 27)).alloc (.cells #[.bool false] 4)) w.heap.size B C d m Ms a cap) := Lib.hid (by
    have bl : Below w.heap.size w ((w.alloc (.cells #[.pointer (some ⟨C, 0, none⟩)] 27)).alloc (.cells #[.bool false] 4)) := ((Below.refl _ _).alloc (Nat.le_refl _) _).alloc (by simp) _
    have x1 := Box.made (w.alloc (.cells #[.pointer (some ⟨C, 0, none⟩)] 27)) 4 #[.bool false]
    rw [World.size_alloc] at x1
    have hr2 := hr.over bl
    exact ⟨(Box.made _ _ _).more _, x1, hq.over bl, box_eq hr2.box (by rw [hl]), hr2.strs, by have := hr2.hc; omega, bl, Nat.le_refl _⟩)
  have HL := Lib.hid hlen
  have hw1 : IntKind.i64.wrap ((d : Int) - (Ms.length : Int)) = (d : Int) - (Ms.length : Int) := IntWalk.i64_in _ (by omega)
  have r0 : ∀ (fn : Fn) (a b : Array Value) (wx : World), (binOp .eql 59 (.func fn a b) .nilFunc).run Try.prog wx = .ok (.bool false) wx := fun _ _ _ _ => rfl
  clear hq hr hl hlen
  refine (callsIn_wide (n := 9)).1 ?_
  refine callsIn_of_wp_marks Try.func17 rfl trivial ?_ rfl
  simp only [Try.ntmps17, List.size_toArray, List.length_cons, List.length_nil, Nat.reduceAdd, Nat.reduceSub, Array.replicate_succ, Array.replicate_zero, List.push_toArray, List.append_toArray, List.nil_append, List.cons_append]
  refine wpIn_wide.2 ?_
  go_wp2
  refine wp_region_calm (fun w' => w'.cell? ⟨w.heap.size, 0, none⟩ = some (.pointer (some ⟨C, 0, none⟩)) ∧ w'.cell? ⟨C, 0, none⟩ = some (.slice a Ms.length cap) ∧ w'.cell? ⟨C, 1, none⟩ = some (.int .i64 d))
    (.e 0 :: .e 1 :: .e 1 :: .e 1 :: .e 1 :: .e 1 :: .l 0 :: .e 0 :: .e 0 :: .e 0 :: .e 1 :: .e 1 :: .e 1 :: .e 1 :: .e 1 :: .e 1 :: .e 1 :: .e 1 :: .e 1 :: .e 1 :: .l 0 :: .e 0 :: .e 0 :: .e 0 :: .e 0 :: .e 1 :: .l 0 :: .l 0 :: .e 0 :: .e 0 :: []) (by kernel_rfl) (by kernel_rfl) (by kernel_rfl) (by kernel_rfl) ?_
  have HA1 := Lib.hid (HA.out.over (Below.refl _ _).drew)
  clear HA
  have hHeld := HA1.out.held
  repeat (first
    | (refine mv_take0 (v := ?_) (by rfl) hHeld ?_ ?_; rotate_left 1; (focus (intro w hSw; (try dsimp only at hSw); obtain ⟨g0, g1, g2⟩ := hSw; go_simp; (try with_reducible rfl); done)); (try simp only [Act.put, List.setIfInBounds_toArray, List.set_cons_zero, List.set_cons_succ]))
    | (refine mv_take1 (v := ?_) (by rfl) hHeld ?_ ?_; rotate_left 1; (focus (intro w hSw; (try dsimp only at hSw); obtain ⟨g0, g1, g2⟩ := hSw; go_simp; (try with_reducible rfl); done)); (try simp only [Act.put, List.setIfInBounds_toArray, List.set_cons_zero, List.set_cons_succ]))
    | (refine mv_loud0 (by rfl) (fun K hK => ?_)
       go_simp
       first
         | (go_at_call 21; refine (ql_waiting HA1.out.q).mono ?_; rintro e w3 ⟨rfl, hb⟩; have HA2 := Lib.hid (HA1.out.over hb); clear HA1 hb hHeld; refine hK.out _ _ HA2.out.held ?_; have hHeld := HA2.out.held)
         | (go_at_call 20; refine (ql_room HA2.out.q).mono ?_; rintro e w4 ⟨rfl, hb⟩; have HA3 := Lib.hid (HA2.out.over hb); clear HA2 hb hHeld; refine hK.out _ _ HA3.out.held ?_; have hHeld := HA3.out.held)
         | (go_at_call 23; refine (ql_dump HA3.out.q).mono ?_; rintro e w5 ⟨rfl, hb⟩; have HA4 := Lib.hid (HA3.out.over hb); clear HA3 hb hHeld; refine hK.out _ _ HA4.out.held ?_; have hHeld := HA4.out.held)
         | (go_at_call 27; refine (rdump_any HA4.out.r (by have := HL.out; omega)).mono ?_; rintro e w6 ⟨rfl, hb⟩; have HA5 := Lib.hid (HA4.out.over hb); clear HA4 hb hHeld; refine hK.out _ _ HA5.out.held ?_; have hHeld := HA5.out.held)
       clear hK K
       (try simp only [Act.put, List.setIfInBounds_toArray, List.set_cons_zero, List.set_cons_succ])))
  refine mv_calm ?_
  clear hHeld
  go_wp2_with (go_at_call 28; refine (all_any B _).mono ?_; rintro e w7 ⟨rfl, rfl⟩)
  obtain ⟨Z, hZ⟩ : ∃ Z, Z = w6.heap.size := ⟨_, rfl⟩
  obtain ⟨w8, hw8⟩ : ∃ w8, w8 = (w6.alloc (.cells #[.pointer (some ⟨B, 0, none⟩)] 23)).alloc (.cells #[.int .i64 0] 3) := ⟨_, rfl⟩
  have bl8 : Below w6.heap.size w6 w8 := by rw [hw8]; exact ((Below.refl _ _).alloc (Nat.le_refl _) _).alloc (by simp) _
  have HA8 := Lib.hid (HA5.out.over bl8)
  have hs8 : w8.heap.size = Z + 2 := by rw [hw8, hZ]; simp
  have hx8 : Box w8 (Z + 1) 3 #[.int .i64 0] := by
    have := Box.made (w6.alloc (.cells #[.pointer (some ⟨B, 0, none⟩)] 23)) 3 #[.int .i64 0]
    rw [World.size_alloc] at this
    rw [hw8, hZ]
    exact this
  have hb8 : w8.cell? ⟨Z, 0, none⟩ = some (.pointer (some ⟨B, 0, none⟩)) := by
    rw [hw8, hZ]
    exact Box.read ((Box.made w6 23 #[.pointer (some ⟨B, 0, none⟩)]).more _) 0
  have hZw : w.heap.size + 2 ≤ Z := by rw [hZ]; have := HA5.out.res.inHeap; omega
  obtain ⟨G, f, hqu, hmsg⟩ := HA8.out.q
  rw [← hw8, ← hZ]
  have HZ := Lib.hid (And.intro hZ bl8)
  clear hw8 hZ bl8
  have HM := Lib.hid hmsg
  clear hmsg
  refine (wpIn_wide (n := 9)).1 ?_
  refine wpIn_rangeFunc_ownF rfl (by omega) (gf := 34) (lb := #[.pointer (some ⟨Z, 0, none⟩)]) rfl trivial (enters_of Try.func34 (by kernel_rfl) rfl)
    (iter_all (n := 8) (by omega) (Z + 1) Z (by omega) (by omega) hqu hb8) KX.t (KX.b (n := w8.heap.size)) (Below.refl _ _) (fun _ => rfl)
    (fun pre W => Box W (Z + 1) 3 #[.int .i64 pre.length] ∧ Below (Z + 1) w8 W)
    (fun _ pre _ => ∃ (k : Nat) (y z : Sm), pre[k]? = some z ∧ Ms[k]? = some y ∧ z ≠ y)
    (OwnFrom.and ((box_own (Z + 1) 3 (fun pre : List Sm => #[.int .i64 pre.length])).from _) (ownFrom_below (by omega) (by omega)))
    (fun _ _ _ _ _ hs _ _ => hs)
    ⟨hx8, Below.refl _ _⟩
    (fun x => { tmps := #[.pointer (some ⟨B, 0, none⟩), .pointer (some ⟨C, 0, none⟩), undef, .pointer (some ⟨w.heap.size, 0, none⟩), .pointer (some ⟨w.heap.size + 1, 0, none⟩), .func (.func 34) #[] #[.pointer (some ⟨Z, 0, none⟩)], .pointer (some ⟨Z + 1, 0, none⟩), .string x.1, .pointer (some ⟨B, 0, none⟩), .int .i64 Ms.length, .pointer (some ⟨C, 0, none⟩), .pointer (some ⟨C, 0, none⟩), .pointer (some ⟨C, 0, none⟩), .slice a Ms.length cap, .int .i64 Ms.length, .bool false, .bool false, .pointer (some ⟨B, 0, none⟩), .int .i64 (d - Ms.length : Int), .pointer (some ⟨C, 0, none⟩), .pointer (some ⟨C, 0, none⟩), .pointer (some ⟨C, 1, none⟩), .int .i64 d, .pointer (some ⟨C, 0, none⟩), .pointer (some ⟨C, 0, none⟩), .pointer (some ⟨C, 0, none⟩), .slice a Ms.length cap, .int .i64 Ms.length, .int .i64 (d - Ms.length : Int), .bool false, .bool false, .bool false, .pointer (some ⟨B, 0, none⟩), .string (dumpM Ms.length Ms), .pointer (some ⟨C, 0, none⟩), .string (dumpM Ms.length Ms), .bool false, .bool false, .pointer (some ⟨B, 0, none⟩), .func (.func 34) #[] #[.pointer (some ⟨Z, 0, none⟩)], .func (.func 34) #[] #[.pointer (some ⟨Z, 0, none⟩)], .bool false, .func (.func 34) #[] #[.pointer (some ⟨Z, 0, none⟩)], .string x.1, undef, undef, undef, undef, undef, undef, undef, undef, undef, undef, undef, undef, undef, undef, undef, undef, undef, undef, undef, undef, undef, undef, undef, undef, undef, undef, undef], defers := [] }) ?assign ?body ?done ?stop
  case assign =>
    intro l x W K hK
    gi_wp2
    exact hK
  case body =>
    rintro l pre x W ⟨hbx, hB⟩ hpl
    have hAW : Al w W w.heap.size B C d m Ms a cap := HA5.out.over (HZ.out.2.trans (hB.mono (by have := HZ.out.1; omega)))
    obtain ⟨b, off, rfl, hbb, hcl⟩ := hAW.strs pre.length (Ms[pre.length]).1 (by rw [List.getElem?_map, List.getElem?_eq_getElem hpl]; rfl)
    have hyk : Ms[pre.length]? = some Ms[pre.length] := List.getElem?_eq_getElem hpl
    generalize Ms[pre.length] = y at hcl hyk
    have HY := Lib.hid hyk
    have HW := Lib.hid hAW
    have HBx := Lib.hid (And.intro hbx hB)
    have e0 : W.cell? ⟨Z + 1, 0, none⟩ = some (.int .i64 pre.length) := hbx.read 0
    have e1 : W.cell? ⟨w.heap.size, 0, none⟩ = some (.pointer (some ⟨C, 0, none⟩)) := hAW.rb.read 0
    have e2 : W.cell? ⟨C, 0, none⟩ = some (.slice (some ⟨b, off, none⟩) Ms.length cap) := hAW.box.read 0
    have k1 : (0 : Int) ≤ (pre.length : Int) := Int.natCast_nonneg _
    have k2 : (pre.length : Int) < (Ms.length : Int) := by omega
    have k3 : ¬ (Ms.length ≤ pre.length) := by omega
    have k4 : pre.length < Ms.length := hpl
    have hz : wrap64 ((pre.length : Int) + 1) = (pre.length : Int) + 1 := by
      have := HL.out
      unfold wrap64
      omega
    clear hyk hAW hbx hB hpl
    have hmx : Try.prog.follows .mixedOrders = true := by kernel_rfl
    have hd : 1 ≤ 9 - 1 - 1 := by omega
    obtain ⟨s, hs64⟩ := x
    simp only at *
    cases hc : (s.toList == y.1.toList)
    · gi_wp2
      refine wpIn_region_ends (fun w' => w'.cell? ⟨Z + 1, 0, none⟩ = some (.int .i64 pre.length) ∧ w'.cell? ⟨w.heap.size, 0, none⟩ = some (.pointer (some ⟨C, 0, none⟩)) ∧ w'.cell? ⟨C, 0, none⟩ = some (.slice (some ⟨b, off, none⟩) Ms.length cap) ∧ w'.cell? ⟨b, off + pre.length, none⟩ = some (.string y.1))
        (.e 0 :: .e 0 :: .e 0 :: .e 0 :: .e 0 :: .e 0 :: .e 0 :: .e 0 :: .e 0 :: .e 0 :: .e 0 :: .e 0 :: .e 0 :: .e 0 :: .e 0 :: .e 0 :: .e 0 :: .e 0 :: []) (by kernel_rfl) (by kernel_rfl) (by kernel_rfl) (by kernel_rfl) (by kernel_rfl) ?_
      have hHeld : W.drew.cell? ⟨Z + 1, 0, none⟩ = some (.int .i64 pre.length) ∧ W.drew.cell? ⟨w.heap.size, 0, none⟩ = some (.pointer (some ⟨C, 0, none⟩)) ∧ W.drew.cell? ⟨C, 0, none⟩ = some (.slice (some ⟨b, off, none⟩) Ms.length cap) ∧ W.drew.cell? ⟨b, off + pre.length, none⟩ = some (.string y.1) := ⟨e0, e1, e2, hcl⟩
      repeat (refine mv_take0 (v := ?_) (by rfl) hHeld ?_ ?_; rotate_left 1; (focus (intro w hSw; (try dsimp only at hSw); obtain ⟨g0, g1, g2, g3⟩ := hSw; go_simp; (try with_reducible rfl); done)); (try simp only [Act.put, List.setIfInBounds_toArray, List.set_cons_zero, List.set_cons_succ]))
      refine mv_ends ?_
      have c4 := HW.out.res.drawn1.read 0
      have f4 := HW.out.res.drawn1.warm 0
      clear hHeld
      gi_wp2
      refine ⟨(KeepsOthers.drew W).trans (KeepsOthers.setCell _ _ _), pre.length, y, ⟨s, hs64⟩, by simp, HY.out, fun e => ?_⟩
      subst e
      simp at hc
    · gi_wp2
      refine wpIn_region_ends (fun w' => w'.cell? ⟨Z + 1, 0, none⟩ = some (.int .i64 pre.length) ∧ w'.cell? ⟨w.heap.size, 0, none⟩ = some (.pointer (some ⟨C, 0, none⟩)) ∧ w'.cell? ⟨C, 0, none⟩ = some (.slice (some ⟨b, off, none⟩) Ms.length cap) ∧ w'.cell? ⟨b, off + pre.length, none⟩ = some (.string y.1))
        (.e 0 :: .e 0 :: .e 0 :: .e 0 :: .e 0 :: .e 0 :: .e 0 :: .e 0 :: .e 0 :: .e 0 :: .e 0 :: .e 0 :: .e 0 :: .e 0 :: .e 0 :: .e 0 :: .e 0 :: .e 0 :: []) (by kernel_rfl) (by kernel_rfl) (by kernel_rfl) (by kernel_rfl) (by kernel_rfl) ?_
      have hHeld : W.drew.cell? ⟨Z + 1, 0, none⟩ = some (.int .i64 pre.length) ∧ W.drew.cell? ⟨w.heap.size, 0, none⟩ = some (.pointer (some ⟨C, 0, none⟩)) ∧ W.drew.cell? ⟨C, 0, none⟩ = some (.slice (some ⟨b, off, none⟩) Ms.length cap) ∧ W.drew.cell? ⟨b, off + pre.length, none⟩ = some (.string y.1) := ⟨e0, e1, e2, hcl⟩
      repeat (refine mv_take0 (v := ?_) (by rfl) hHeld ?_ ?_; rotate_left 1; (focus (intro w hSw; (try dsimp only at hSw); obtain ⟨g0, g1, g2, g3⟩ := hSw; go_simp; (try with_reducible rfl); done)); (try simp only [Act.put, List.setIfInBounds_toArray, List.set_cons_zero, List.set_cons_succ]))
      refine mv_ends ?_
      have c4 := HBx.out.1.drawn1.read 0
      have f4 := HBx.out.1.drawn1.warm 0
      clear hHeld
      gi_wp2
      refine ⟨(KeepsOthers.drew W).trans (KeepsOthers.setCell _ _ _), fun k hk cs t fz h => (Below.heap_setCell W.drew ⟨Z + 1, 0, none⟩ _ k hk).trans h, box_eq (HBx.out.1.drawn1.put 0 _) ?_, (HBx.out.2.drew).setCell (p := ⟨Z + 1, 0, none⟩) (Nat.le_refl _) _⟩
      simp
  case done =>
    rintro D ys W hD rfl ⟨hbx, hB⟩ hK
    rw [HM.out] at hbx
    have hAW : Al w W w.heap.size B C d m Ms a cap := HA5.out.over (HZ.out.2.trans (hB.mono (by have := HZ.out.1; omega)))
    have HW := Lib.hid hAW
    have HBx := Lib.hid hbx
    have e0 : W.cell? ⟨Z + 1, 0, none⟩ = some (.int .i64 Ms.length) := hbx.read 0
    have e1 : W.cell? ⟨w.heap.size, 0, none⟩ = some (.pointer (some ⟨C, 0, none⟩)) := hAW.rb.read 0
    have e2 : W.cell? ⟨C, 0, none⟩ = some (.slice a Ms.length cap) := hAW.box.read 0
    clear hAW hbx hB
    go_wp2
    refine wp_region_moves_then 7 (fun w' => w'.cell? ⟨Z + 1, 0, none⟩ = some (.int .i64 Ms.length) ∧ w'.cell? ⟨w.heap.size, 0, none⟩ = some (.pointer (some ⟨C, 0, none⟩)) ∧ w'.cell? ⟨C, 0, none⟩ = some (.slice a Ms.length cap))
      (.e 0 :: .e 0 :: .e 0 :: .e 0 :: .e 0 :: .e 0 :: .e 0 :: []) (by kernel_rfl) (by kernel_rfl) (by kernel_rfl) (by kernel_rfl) (by kernel_rfl) (by kernel_rfl) ?_
    simp only [List.take_succ_cons, List.take_zero, List.drop_succ_cons, List.drop_zero]
    have hHeld : W.drew.cell? ⟨Z + 1, 0, none⟩ = some (.int .i64 Ms.length) ∧ W.drew.cell? ⟨w.heap.size, 0, none⟩ = some (.pointer (some ⟨C, 0, none⟩)) ∧ W.drew.cell? ⟨C, 0, none⟩ = some (.slice a Ms.length cap) := ⟨e0, e1, e2⟩
    repeat (refine mv_take0 (v := ?_) (by rfl) hHeld ?_ ?_; rotate_left 1; (focus (intro w hSw; (try dsimp only at hSw); obtain ⟨g0, g1, g2⟩ := hSw; go_simp; (try with_reducible rfl); done)); (try simp only [Act.put, List.setIfInBounds_toArray, List.set_cons_zero, List.set_cons_succ]))
    refine mv_then ?_
    have c4 := HW.out.res.drawn1.read 0
    have f4 := HW.out.res.drawn1.warm 0
    clear hHeld e0 e1 e2
    go_wp2
    refine NoPanic.normal ?_
    clear c4 f4
    go_wp2
    have hX1 := HW.out.res.inHeap
    have hs0 := HW.out.bel.size
    have hDX : D ≠ w.heap.size + 1 := by omega
    have bl1 : Below w.heap.size w (W.setCell ⟨w.heap.size + 1, 0, none⟩ (.bool true)).drew := (HW.out.bel.setCell (p := ⟨w.heap.size + 1, 0, none⟩) (by show w.heap.size ≤ w.heap.size + 1; omega) _).drew
    have hx1 : Box (W.setCell ⟨w.heap.size + 1, 0, none⟩ (.bool true)).drew (w.heap.size + 1) 4 #[.bool true] := (HW.out.res.put 0 _).drawn1
    have hK2 : (W.setCell ⟨w.heap.size + 1, 0, none⟩ (.bool true)).drew.heap[D]? = some (.deferred (some [])) := (Below.heap_setCell W ⟨w.heap.size + 1, 0, none⟩ _ D hDX).trans hK
    generalize (W.setCell ⟨w.heap.size + 1, 0, none⟩ (.bool true)).drew = W2 at bl1 hx1 hK2 ⊢
    refine ⟨by simp, .inl ⟨_, _, rfl, run_takeDeferred hK2, ?_⟩⟩
    have hx2 : Box (W2.putObj D (.deferred none)) (w.heap.size + 1) 4 #[.bool true] := (World.putObj_heap_other (fun e => hDX e.symm)).trans hx1
    exact ⟨_, results_cell1 rfl _ _ _ (w.heap.size + 1) (.bool true) rfl (hx2.read 0) (run_isAgg_plain Try.underlying4 rfl _), rfl, bl1.trans (belowK_b (w := w) (Nat.le_refl _) W2 D _ _ (by omega) hK2 rfl rfl)⟩
  case stop =>
    rintro D c pre W _ hpre h _
    obtain ⟨k, y, z, h1, h2, h3⟩ := h
    rw [HM.out] at hpre
    obtain ⟨t, ht⟩ := hpre
    rw [← ht, List.getElem?_append_left (List.getElem?_eq_some_iff.1 h1).1, h1] at h2
    exact absurd (Option.some.inj h2) h3
end Go.Proofs.Ytnignbpgcopehaa
