/- The document's monitor: Raise. -/
import Derived.Test.YtidkbclhjgmhjaaDoorK
import Derived.Test.YtidkbclhjgmhjaaDoorHq
set_option linter.unusedVariables false
set_option linter.unusedSimpArgs false
namespace Go.Proofs.YtidkbclhjgmhjaaDoor
open Go.RowKit
theorem wp_append_lane {P : Program} {w : World} {o : Oper} {a : Act} {K : Act → World → Prop} {Q : Exit → Act → World → Prop} (s x : Operand) (t : TypeId)
    (ho : o.op = .call { callee := .builtin .append, args := #[s, x], argTypes := #[t, t] })
    (e : TypeId) (i : TypeInfo) (z : Value) (bytes : Nat) (ht : P.underlying t = some (.slice e)) (hi : P.info? e = some i) (hz : i.zero = some z) (hsz : i.size = 1) (hby : i.bytes = bytes) (hzs : z.cells.size = 1)
    (v y : Value) (T N : List Value) (hs : a.eval s = v) (hx : a.eval x = y) (hv : Lane w e v T) (hy : Lane w e y N) (h1 : ∀ u ∈ N, u.oneCell' = true)
    (h63 : T.length + N.length ≤ maxLen) (hbytes : (T.length + N.length) * bytes ≤ 140737488355328)
    (h : ∀ v' w', Lane w' e v' (T ++ N) → w.grownBy w' v.ownBlock → (∀ k, v'.ownBlock = some k → v.ownBlock = some k ∨ (w.heap.size ≤ k ∧ k < w'.heap.size)) → K (a.put o.dst v') w') : Oper.wp P o a w K Q := by
  obtain ⟨v', w', hr, h2, h3, h4⟩ := run_append_lane (P := P) (w := w) t o.type e i z bytes ht hi hz hsz hby hzs v y T N hv hy h1 h63 hbytes
  unfold Oper.wp execOp
  simp only [ho, resolve, invoke, builtin, Sem.run_bind, Sem.run_pure, Result.andThen_ok, List.map_toArray, List.map_cons, List.map_nil, hs, hx, hr]
  exact h v' w' h2 h3 h4
theorem info5 : (Tryd.prog.info? 5).map (fun i => (i.zero, i.size, i.bytes)) = some (some (.int .u8 0), 1, 1) := by kernel_rfl
section
variable {w w' : World} {C : Nat} {T : Nat → Int} {pg li rs r : Int} {R : List Int} {h : Bool} {K : Nat → Prop} {v : Value}
theorem dmon_at (T : Nat → Int) (pg li rs : Int) (v : Value) (r : Int) (h : Bool) : ∀ k : Nat, k < 17 → (dmon T pg li rs v r h)[3 + k]? = some (.int .u8 (T k))
  | 0, _ => rfl
  | 1, _ => rfl
  | 2, _ => rfl
  | 3, _ => rfl
  | 4, _ => rfl
  | 5, _ => rfl
  | 6, _ => rfl
  | 7, _ => rfl
  | 8, _ => rfl
  | 9, _ => rfl
  | 10, _ => rfl
  | 11, _ => rfl
  | 12, _ => rfl
  | 13, _ => rfl
  | 14, _ => rfl
  | 15, _ => rfl
  | 16, _ => rfl
  | k + 17, h => absurd h (by omega)
theorem size_setCell (w : World) (p : Addr) (u : Value) : (w.setCell p u).heap.size = w.heap.size := by simp [World.setCell]
theorem draise_far (hv : Dv w C T pg li rs R r h K v) (f : Nat) (h17 : 17 ≤ f) (hf : f < 256) : Calls Tryd.prog 12 #[.pointer (some ⟨C, 0, none⟩), .int .u8 f] w fun e w' => e = .returned (.int .u8 0) ∧ w = w' := by
  clear hv
  go_enter Tryd.func12, Tryd.ntmps12
  go_wp2
  go_ret
  exact ⟨rfl, rfl⟩
set_option maxHeartbeats 4000000 in
set_option maxRecDepth 100000 in
theorem draise_in (hv : Dv w C T pg li rs R r h K v) (hn : R.length ≤ 1000) (f : Nat) (hf : f < 17) : Calls Tryd.prog 12 #[.pointer (some ⟨C, 0, none⟩), .int .u8 f] w fun e w' => e = .returned (.int .u8 (T f)) ∧ (∃ v', Dv w' C T pg li rs (R ++ [T f]) r h (grew K w w') v') ∧ Touch K w w' := by
  obtain ⟨i0, hi, iz0, iz1, iz2⟩ := info_parts info5
  obtain ⟨a, cap, rfl, hne⟩ := hv.lane.shape
  have hlen : (raws R).length = R.length := by simp [raws]
  rw [hlen] at hv
  have hC := hv.box.inHeap
  have HV := Lib.hid hv
  have HN := Lib.hid hne
  have hat := dmon_at T pg li rs (.slice a R.length cap) r h f hf
  have HAT := Lib.hid hat
  have hf17 : (f : Int) < 17 := by omega
  clear hv hne hat
  go_enter Tryd.func12, Tryd.ntmps12
  go_wp2_with fail
  refine wp_region_moves_then 16 (fun w' => w'.cell? ⟨C, 20, none⟩ = some (.slice a R.length cap) ∧ w'.cell? ⟨C, 3 + f, none⟩ = some (.int .u8 (T f)))
    (.e 0 :: .e 0 :: .e 0 :: .e 0 :: .e 0 :: .e 0 :: .e 0 :: .e 0 :: .e 0 :: .e 0 :: .e 0 :: .e 0 :: .l 0 :: .l 0 :: .e 0 :: .e 0 :: []) (by kernel_rfl) (by kernel_rfl) (by kernel_rfl) (by kernel_rfl) (by kernel_rfl) (by kernel_rfl) ?_
  simp only [List.take_succ_cons, List.take_zero, List.drop_succ_cons, List.drop_zero]
  have hHeld := And.intro ((HV.out.drawn 1).box.read 20) (((HV.out.drawn 1).box.read (3 + f)).trans HAT.out)
  repeat (refine mv_take0 (v := ?_) (by rfl) hHeld ?_ ?_; rotate_left 1; (focus (intro w hSw; (try dsimp only at hSw); obtain ⟨hs0, hs1⟩ := hSw; go_simp; (try with_reducible rfl); done)); (try simp only [Act.put, List.setIfInBounds_toArray, List.set_cons_zero, List.set_cons_succ]))
  refine mv_loud0 (by rfl) (fun K2 hK => ?_)
  go_simp
  refine hK.out _ _ ⟨(((HV.out.drawn 1).box.more _).read 20), ((((HV.out.drawn 1).box.more _).read (3 + f)).trans HAT.out)⟩ ?_
  clear hK K2
  (try simp only [Act.put, List.setIfInBounds_toArray, List.set_cons_zero, List.set_cons_succ])
  refine mv_loud0 (by rfl) (fun K2 hK => ?_)
  have hla := (HV.out.drawn 1).lane.more (.cells #[.int .u8 (T f)] 5)
  have hli := Lane.lit (w.drewN 1) 5 #[.int .u8 (T f)] (by simp [maxLen])
  have hm := hK
  refine wp_append_lane _ _ 26 rfl 5 i0 (.int .u8 0) 1 Tryd.underlying26 hi iz0 iz1 iz2 (by decide) (.slice a R.length cap) (.slice (some ⟨w.heap.size, 0, none⟩) 1 1) (raws R) [.int .u8 (T f)] rfl rfl hla hli ?c1 ?c2 ?c3 ?_
  case c1 => intro u hu; simp at hu; subst hu; rfl
  case c2 => rw [hlen]; simp only [List.length_singleton, maxLen]; omega
  case c3 => rw [hlen]; simp only [List.length_singleton]; omega
  · intro v' w2 hl2 hg2 hb2
    have hfo := HV.out.lane.far HV.out.box (by decide)
    have hbx : Box w2 C 39 (dmon T pg li rs (.slice a R.length cap) r h) := (hg2.block C (HV.out.box.more _).inHeap (fun e => hfo e.symm)).trans ((HV.out.box.drawn 1).more _)
    have hHeld := And.intro (hbx.read 20) ((hbx.read (3 + f)).trans HAT.out)
    refine hK.out _ _ hHeld ?_
    clear hm hK K2
    (try simp only [Act.put, List.setIfInBounds_toArray, List.set_cons_zero, List.set_cons_succ])
    repeat (refine mv_take0 (v := ?_) (by rfl) hHeld ?_ ?_; rotate_left 1; (focus (intro w hSw; (try dsimp only at hSw); obtain ⟨hs0, hs1⟩ := hSw; go_simp; (try with_reducible rfl); done)); (try simp only [Act.put, List.setIfInBounds_toArray, List.set_cons_zero, List.set_cons_succ]))
    refine mv_then ?_
    have hT2 : Touch K w w2 := ((((Touch.refl K w).drawn 1).more (.cells #[.int .u8 (T f)] 5)).grown hg2 fun k e => .inl (HV.out.kv k e))
    have hD : Dv (w2.setCell ⟨C, 20, none⟩ v') C T pg li rs (R ++ [T f]) r h (grew K w (w2.setCell ⟨C, 20, none⟩ v')) v' :=
      ⟨box_eq (hbx.put 20 _) (by kernel_rfl), by have := hl2.putFar (p := ⟨C, 20, none⟩) hbx (by decide) v'; rw [show raws (R ++ [T f]) = raws R ++ [.int .u8 (T f)] by simp [raws]]; exact this, .inl HV.out.kC, fun k e => by
        rcases hb2 k e with h1 | h1
        · exact .inl (HV.out.kv k h1)
        · right
          have h2 : w.heap.size + 1 ≤ k := by simpa using h1.1
          exact ⟨by omega, by rw [size_setCell]; exact h1.2⟩⟩
    have hT3 : Touch K w (w2.setCell ⟨C, 20, none⟩ v') := hT2.put (p := ⟨C, 20, none⟩) (.inl HV.out.kC) v'
    have c20 := hbx.read 20
    have f20 := hbx.warm 20
    have HD := Lib.hid (And.intro hD hT3)
    obtain ⟨a2, cap2, rfl, hne2⟩ := hl2.shape
    have hat2 := (hD.box.read (3 + f)).trans (dmon_at T pg li rs _ r h f hf)
    clear hD hT3 hT2 hl2 hg2 hb2 hla hli
    simp only [List.length_append, hlen, List.length_singleton] at HD hat2
    go_wp2_with fail
    refine NoPanic.normal ?_
    clear c20 f20 hbx
    generalize (w2.setCell ⟨C, 20, none⟩ (.slice a2 (R.length + 1) cap2)) = w3 at HD hat2 ⊢
    go_wp2_with fail
    go_ret
    exact ⟨rfl, ⟨_, HD.out.1⟩, HD.out.2⟩
end
end Go.Proofs.YtidkbclhjgmhjaaDoor
