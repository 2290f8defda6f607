/- What the document's Read does. -/
import Derived.Test.YtgicehhenahfpaaDoorS
set_option linter.unusedVariables false
set_option linter.unusedSimpArgs false
namespace Go.Proofs.YtgicehhenahfpaaDoor
open Go.RowKit
attribute [local go_sem] Oper.semAt_some
/-- What a reading answers. -/
def ans (s : ByteArray) (age : Int) (st : Bool) (e : Int) : Value := .tuple #[.string s, .int .u64 age, .bool st, .int .i64 e]
theorem dread_out {w : World} {B : Nat} {m v n : Int} {sl : Value} (hb : Box w B 36 (dch m v n sl)) (k : Int) (h0 : k < 0 ∨ n ≤ k) (x : Int) : Calls Tryd.prog 24 #[.pointer (some ⟨B, 0, none⟩), .int .i64 k, .int .u64 x] w fun e w' => e = .returned (ans ⟨#[]⟩ 0 false 2) ∧ w' = w := by
  have c2 : w.cell? ⟨B, 2, none⟩ = some (.int .i64 n) := hb.read 2
  by_cases hk : k < 0
  · go_enter Tryd.func24, Tryd.ntmps24
    go_wp2
    exact bodyPost_ret (v := ans ⟨#[]⟩ 0 false 2) (by simp [ans, results, Tryd.results24, go_sem]) rfl ⟨rfl, rfl⟩
  · have h1 : n ≤ k := by omega
    clear h0
    go_enter Tryd.func24, Tryd.ntmps24
    go_wp2
    exact bodyPost_ret (v := ans ⟨#[]⟩ 0 false 2) (by simp [ans, results, Tryd.results24, go_sem]) rfl ⟨rfl, rfl⟩
theorem dread_none {w : World} {B : Nat} {m v n : Int} (hb : Box w B 36 (dch m v n (.slice none 0 0))) (k : Int) (h0 : 0 ≤ k) (h1 : k < n) (x : Int) : Calls Tryd.prog 24 #[.pointer (some ⟨B, 0, none⟩), .int .i64 k, .int .u64 x] w fun e w' => e = .returned (ans ⟨#[]⟩ 0 false 10) ∧ w' = w := by
  have c2 : w.cell? ⟨B, 2, none⟩ = some (.int .i64 n) := hb.read 2
  have c3 : w.cell? ⟨B, 3, none⟩ = some (.slice none 0 0) := hb.read 3
  go_enter Tryd.func24, Tryd.ntmps24
  go_wp2
  exact bodyPost_ret (v := ans ⟨#[]⟩ 0 false 10) (by simp [ans, results, Tryd.results24, go_sem]) rfl ⟨rfl, rfl⟩
theorem Dl.drawn {w : World} {B H c t g q cap : Nat} {m v n : Int} {s : ByteArray} {R : List Int} {xs : List Value} {rv : Value} (h : Dl w B H m v n c t s R g q cap xs rv) (k : Nat) : Dl (w.drewN k) B H m v n c t s R g q cap xs rv :=
  ⟨h.box, h.own, h.x0, h.x1, h.x2, h.lane.drawn k, h.far, h.hk, h.hR, h.eld.world fun ev T h1 _ => h1.drawn k⟩
theorem own_box {w : World} {H n z g cap : Nat} {e : TypeId} {xs : List Value} (h : w.ownsRow H e z (.slice (some ⟨g, 0, none⟩) n cap) n xs) : H ≤ g ∧ ∃ cur, Box w g e cur := by
  rcases h.2 with ⟨h', _⟩ | ⟨g', cap', cur, h', hb, hg, _⟩
  · cases h'
  · cases h'
    exact ⟨hb, cur, hg⟩
theorem iv_snoc (R : List Int) (k : Int) : iv R ++ [.int .i64 k] = iv (R ++ [k]) := by simp [iv]
/-- A reader more is written down. -/
theorem Dl.read {w0 w w' : World} {B H c t g q cap : Nat} {m v n : Int} {s : ByteArray} {R : List Int} {xs : List Value} {rv v2 : Value} {k : Int} (h : Dl w B H m v n c t s R g q cap xs rv) (hT : Touch (Kp B H) w0 w) (hH : H ≤ w.heap.size) (o : Obj)
    (hl : Lane w' 3 v2 (iv R ++ [.int .i64 k])) (hg : (w.alloc o).grownBy w' rv.ownBlock) (hb : ∀ j, v2.ownBlock = some j → rv.ownBlock = some j ∨ (w.heap.size + 1 ≤ j ∧ j < w'.heap.size)) :
    Dl (w'.setCell ⟨g, q * 3 + 2, none⟩ v2) B H m v n (c + 1) t s (R ++ [k]) g q cap (xs.set (q * 3 + 2) v2) v2 ∧ Touch (Kp B H) w0 (w'.setCell ⟨g, q * 3 + 2, none⟩ v2) ∧ ∀ X cs', Box w X 51 cs' → Box (w'.setCell ⟨g, q * 3 + 2, none⟩ v2) X 51 cs' := by
  obtain ⟨hHg, cur, hgb⟩ := own_box h.own
  have ng : rv.ownBlock ≠ some g := h.lane.far hgb (by decide)
  have nB : rv.ownBlock ≠ some B := h.lane.far h.box (by decide)
  have own2 := (h.own.alloc o).kept hg (.inr fun e => ng (by simpa [Value.ownBlock] using e.symm))
  have box2 : Box w' B 36 _ := (hg.block B (h.box.more o).inHeap (fun e => nB e.symm)).trans (h.box.more o)
  obtain ⟨_, cur2, hgb2⟩ := own_box own2
  have hne : B ≠ g := fun e => by
    subst e
    have h1 : w'.heap[B]? = some (.cells _ 36 (0, 0)) := box2
    rw [show w'.heap[B]? = _ from hgb2] at h1
    cases h1
  have hlen : xs.length = (q + 1) * 3 := h.own.1
  have hk := h.hk
  have hR := h.hR
  refine ⟨⟨box2.putFar hne _, (own2.stored (q * 3 + 2) v2).1, ?_, ?_, ?_, ?_, fun j hj => ?_, by omega, by rw [List.length_append]; simp; omega, ?_⟩, ?_, ?_⟩
  · rw [List.getElem?_set_ne (by omega)]; exact h.x0
  · rw [List.getElem?_set_ne (by omega)]; exact h.x1
  · rw [List.getElem?_set_self (by omega)]
  · rw [← iv_snoc]
    exact hl.putFar hgb2 (by decide) _
  · rcases hb j hj with h1 | h1
    · exact h.far j h1
    · omega
  · refine h.eld.kept (fun i hi => List.getElem?_set_ne (by omega)) (fun ev T h1 h2 => ?_) (Nat.le_succ _)
    refine ⟨((h1.more o).kept hg (by
      cases hev : ev.ownBlock with
      | none => exact .inl rfl
      | some b => exact .inr fun e => (h2 b hev).2 e.symm)).putFar (p := ⟨g, q * 3 + 2, none⟩) hgb2 (by decide) _, fun j hj e => ?_⟩
    rcases hb j e with h3 | h3
    · exact (h2 j hj).2 h3
    · have := h1.lt j hj
      omega
  · refine ((hT.more o).grown hg fun j hj => .inl (.inr (h.far j hj))).put (.inl (.inr hHg)) _
  · intro X cs' hX
    have hX' : Box w' X 51 cs' := (hg.block X (hX.more o).inHeap (fun e => h.lane.far hX (by decide) e.symm)).trans (hX.more o)
    refine hX'.putFar (fun e => ?_) _
    have e' : X = g := e
    subst e'
    have h1 : w'.heap[X]? = some (.cells cs' 51 (0, 0)) := hX'
    rw [show w'.heap[X]? = _ from hgb2] at h1
    cases h1
theorem info3 : (Tryd.prog.info? 3).map (fun i => (i.zero, i.size, i.bytes)) = some (some (.int .i64 0), 1, 8) := by kernel_rfl
set_option maxHeartbeats 2000000 in
theorem dread_ok {w : World} {B H c t g q cap : Nat} {m v n : Int} {s : ByteArray} {R : List Int} {xs : List Value} {rv : Value} (hd : Dl w B H m v n c t s R g q cap xs rv) (hH : H ≤ w.heap.size) (hc : c ≤ 1048576) (k : Int) (h0 : 0 ≤ k) (h1 : k < n) (hn : n ≤ 16) (x : Nat) (hx : x < 18446744073709551616) (ht : t < 18446744073709551616) (hv0 : 0 ≤ v) (hv1 : v ≤ 4294967295) :
    Calls Tryd.prog 24 #[.pointer (some ⟨B, 0, none⟩), .int .i64 k, .int .u64 x] w fun e w' => e = .returned (ans s (ageOf t x) (decide (v < ageOf t x)) 0) ∧ Dc w' B H m v n (c + 1) (some (t, s, R ++ [k])) ∧ Touch (Kp B H) w w' ∧ ∀ X cs', Box w X 51 cs' → Box w' X 51 cs' := by
  have c1 : w.cell? ⟨B, 1, none⟩ = some (.int .u32 v) := hd.box.read 1
  have c2 : w.cell? ⟨B, 2, none⟩ = some (.int .i64 n) := hd.box.read 2
  have c3 : w.cell? ⟨B, 3, none⟩ = some (.slice (some ⟨g, 0, none⟩) (q + 1) cap) := hd.box.read 3
  have hq := hd.hk
  have d0 := (World.ownsRow.cellAt hd.own (q * 3) (by omega)).trans hd.x0
  have d1 := (World.ownsRow.cellAt hd.own (q * 3 + 1) (by omega)).trans hd.x1
  have d2 := (World.ownsRow.cellAt hd.own (q * 3 + 2) (by omega)).trans hd.x2
  have f2 := World.ownsRow.frozenAt hd.own (q * 3 + 2)
  obtain ⟨i0, hi, iz0, iz1, iz2⟩ := info_parts info3
  have HD := Lib.hid hd
  clear hd
  have e1 : ((q : Int) + 1 - 1) = (q : Int) := by omega
  have q0 : (0 : Int) ≤ (q : Int) := Int.natCast_nonneg _
  have q1 : (q : Int) ≤ 1048576 := by omega
  have h2 : ¬ k < 0 := by omega
  have h3 : ¬ n ≤ k := by omega
  go_enter Tryd.func24, Tryd.ntmps24
  go_wp2
  go_quiet (fail)
  have HD9 : Hid (Dl (w.drewN nq) B H m v n c t s R g q cap xs rv) := Lib.hid (HD.out.drawn nq)
  have HT9 : Hid (Touch (Kp B H) w (w.drewN nq)) := Lib.hid ((Touch.refl _ _).drawn nq)
  have HX9 : Hid (∀ X cs', Box w X 51 cs' → Box (w.drewN nq) X 51 cs') := Lib.hid fun X cs' h => h.drawn nq
  generalize w.drewN nq = w9 at HD9 HT9 HX9 ⊢
  clear c1 c2 c3 d0 d1 d2 f2
  have d2 := (World.ownsRow.cellAt HD9.out.own (q * 3 + 2) (by omega)).trans HD9.out.x2
  have hH9 : H ≤ w9.heap.size := Nat.le_trans hH HT9.out.size
  have hRl := HD9.out.hR
  have hlit := Lane.lit w9 3 #[.int .i64 k] (by simp [maxLen])
  have HY := Lib.hid hlit
  clear hlit
  go_wp2_with (at_builtin; go_loud (refine wpList_append_lane rfl _ _ 57 rfl 3 i0 (.int .i64 0) 8 Tryd.underlying57 hi iz0 iz1 iz2 rfl rv _ (iv R) [.int .i64 k] rfl rfl (HD9.out.lane.more _) HY.out ?d1 ?d2 ?d3 ?_))
  case d1 => first | rfl | (intro u hu; simp at hu; subst hu; rfl)
  case d2 => simp [iv_len, maxLen]; omega
  case d3 => simp [iv_len]; omega
  intro v2 w2 hlane hg2 hown2
  obtain ⟨a2, n2, cap2, rfl⟩ : ∃ a n c, v2 = .slice a n c := by
    obtain ⟨a, c, h, _⟩ := hlane.shape
    exact ⟨a, _, c, h⟩
  have hR3 := HD9.out.read HT9.out hH9 _ hlane hg2 hown2
  have d2' := (World.ownsRow.cellAt ((HD9.out.own.alloc _).kept hg2 (.inr fun e => HD9.out.lane.far (own_box HD9.out.own).2.choose_spec (by decide) (by simpa [Value.ownBlock] using e.symm))) (q * 3 + 2) (by omega)).trans HD9.out.x2
  have f2' := World.ownsRow.frozenAt ((HD9.out.own.alloc _).kept hg2 (.inr fun e => HD9.out.lane.far (own_box HD9.out.own).2.choose_spec (by decide) (by simpa [Value.ownBlock] using e.symm))) (q * 3 + 2)
  have HR3 := Lib.hid hR3
  clear hR3 hlane hg2 hown2 d2 hi iz0 iz1 iz2
  have HK := Lib.hid q1
  have d0' := (World.ownsRow.cellAt HR3.out.1.own (q * 3) (by omega)).trans HR3.out.1.x0
  have d1' := (World.ownsRow.cellAt HR3.out.1.own (q * 3 + 1) (by omega)).trans HR3.out.1.x1
  have b1' : _ = some (Value.int .u32 v) := HR3.out.1.box.read 1
  by_cases hxt : x < t
  · have hxt' : (x : Int) < (t : Int) := by omega
    have hag : ageOf t x = 0 := if_neg (by omega)
    have hst : decide (v < (0 : Int)) = false := decide_eq_false (by omega)
    have HA := Lib.hid (And.intro hag hst)
    clear hxt hag hst
    go_wp2
    exact bodyPost_ret (v := ans s 0 false 0) (by simp [ans, results, Tryd.results24, go_sem]) rfl ⟨by rw [HA.out.1, HA.out.2], ⟨_, _, _, _, _, HR3.out.1⟩, HR3.out.2.1, fun X cs' h => HR3.out.2.2 X cs' (HX9.out X cs' h)⟩
  · have hxt' : ¬ (x : Int) < (t : Int) := by omega
    have hag : ageOf t x = (x : Int) - t := by
      unfold ageOf
      split <;> omega
    have HA := Lib.hid hag
    have k1 : (0 : Int) ≤ (x : Int) - t := by omega
    have k2 : (x : Int) - t ≤ 18446744073709551615 := by omega
    clear hxt hag
    go_wp2
    go_quiet (fail)
    go_wp2
    exact bodyPost_ret (v := ans s ((x : Int) - t) (decide (v < (x : Int) - t)) 0) (by simp [ans, results, Tryd.results24, go_sem]) rfl ⟨by rw [HA.out], ⟨_, _, _, _, _, HR3.out.1.drawn _⟩, HR3.out.2.1.drawn _, fun X cs' h => (HR3.out.2.2 X cs' (HX9.out X cs' h)).drawn _⟩
end Go.Proofs.YtgicehhenahfpaaDoor
