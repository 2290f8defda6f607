/- The document's queue: Send. -/
import Derived.Test.YtnignbpgcopehaaQf
import Derived.Laws.AppendOwnNone
set_option linter.unusedVariables false
set_option linter.unusedSimpArgs false
namespace Go.Proofs.Ytnignbpgcopehaa
open Go.RowKit
section
variable {w w' : World} {B d m cap : Nat} {T : List ByteArray} {a : Option Addr}
theorem rsend_long (h : Rq w B d m T a cap) (s : ByteArray) (hs : m < s.size) : Calls Try.prog 16 #[.pointer (some ⟨B, 0, none⟩), .string s] w fun e w' => e = .returned (.int .u8 3) ∧ w = w' := by
  have c2 : w.cell? ⟨B, 2, none⟩ = some (.int .i64 m) := h.box.read 2
  clear h
  go_enter Try.func16, Try.ntmps16
  go_wp2
  go_ret
  exact ⟨rfl, rfl⟩
theorem rsend_full (h : Rq w B d m T a cap) (s : ByteArray) (hs : s.size ≤ m) (hT : d ≤ T.length) : Calls Try.prog 16 #[.pointer (some ⟨B, 0, none⟩), .string s] w fun e w' => e = .returned (.int .u8 1) ∧ ∃ k, w' = w.drewN k := by
  have c0 : w.cell? ⟨B, 0, none⟩ = some (.slice a T.length cap) := h.box.read 0
  have c1 : w.cell? ⟨B, 1, none⟩ = some (.int .i64 d) := h.box.read 1
  have c2 : w.cell? ⟨B, 2, none⟩ = some (.int .i64 m) := h.box.read 2
  clear h
  go_enter Try.func16, Try.ntmps16
  go_wp2
  go_quiet (fail)
  go_wp2
  go_ret
  exact ⟨rfl, _, rfl⟩
set_option maxHeartbeats 1000000 in
theorem rsend_some {b off : Nat} (h : Rq w B d m T (some ⟨b, off, none⟩) cap) (s : ByteArray) (hs : s.size ≤ m) (hT : T.length < d) (hd : d ≤ 16) (hbne : b ≠ B) : Calls Try.prog 16 #[.pointer (some ⟨B, 0, none⟩), .string s] w fun e w' => e = .returned (.int .u8 0) ∧ ∃ a' cap', Rq w' B d m (T ++ [s]) a' cap' ∧ Only B w w' := by
  obtain ⟨i0, hi, iz0, iz1, iz2⟩ := info_parts info9
  have c0 : w.cell? ⟨B, 0, none⟩ = some (.slice (some ⟨b, off, none⟩) T.length cap) := h.box.read 0
  have c1 : w.cell? ⟨B, 1, none⟩ = some (.int .i64 d) := h.box.read 1
  have c2 : w.cell? ⟨B, 2, none⟩ = some (.int .i64 m) := h.box.read 2
  have HQ := Lib.hid h
  have hnil := World.ownsRow_nil w w.heap.size 9 1
  clear h
  go_enter Try.func16, Try.ntmps16
  go_wp2
  go_quiet (fail)
  go_wp2_with (at_builtin; go_loud (refine wpList_append_own _ rfl _ _ 44 rfl w.heap.size 9 i0 (.string ⟨#[]⟩) 1 16 Try.underlying44 hi iz0 iz1 iz2 rfl (by decide) (.slice none 0 0) 0 [] rfl (World.ownsRow_nil _ _ _ _) ⟨b, off, none⟩ T.length cap (strs T) rfl ?c1 ?c2 ?c3 ?c4 ?c5 ?c6 ?_))
  case c1 => simp [strs]
  case c2 =>
    intro j u hj
    unfold strs at hj
    rw [List.getElem?_map, Option.map_eq_some_iff] at hj
    obtain ⟨x, hx, rfl⟩ := hj
    obtain ⟨b', off', e, hb', hc'⟩ := HQ.out.strs j x hx
    cases e
    rcases j with _ | j <;> simpa [Addr.add] using hc'
  case c3 =>
    intro u hu
    obtain ⟨x, _, rfl⟩ := List.mem_map.1 hu
    rfl
  case c4 => unfold maxLen; omega
  case c5 => omega
  case c6 => simp
  intro v3 w3 hown3 hg3 _
  have bel3 : Below w.heap.size w w3 := (below_drewN (Below.refl _ w) _).grown hg3 (by simp) (fun k hk => by simp [Value.ownBlock] at hk)
  have HB3 := Lib.hid bel3
  have hb3 := HQ.out.box.over bel3 HQ.out.box.inHeap
  have d0 : w3.cell? ⟨B, 0, none⟩ = some (.slice (some ⟨b, off, none⟩) T.length cap) := hb3.read 0
  have f0 := hb3.warm 0
  have HX3 := Lib.hid hb3
  have hs3 := bel3.size
  obtain ⟨a3, cap3, rfl, _⟩ := own_shape hown3
  clear hg3 bel3 hb3 c0 c1 c2
  go_wp2_with (at_builtin; go_loud (refine wpList_append_own _ rfl _ _ 44 rfl w.heap.size 9 i0 (.string ⟨#[]⟩) 1 16 Try.underlying44 hi iz0 iz1 iz2 rfl (by decide) _ _ _ rfl (hown3.alloc _) ⟨w3.heap.size, 0, none⟩ 1 1 [.string s] rfl rfl ?d1 ?d2 ?d3 ?d4 ?d5 ?_))
  case d1 =>
    intro j u hj
    match j, hj with
    | 0, hj => simp at hj; subst hj; simp [Addr.add]
  case d2 => intro u hu; simp at hu; subst hu; rfl
  case d3 => unfold maxLen; omega
  case d4 => omega
  case d5 => simp; omega
  intro v4 w4 hown4 hg4 _
  have bel4 : Below w.heap.size w w4 := (HB3.out.alloc HB3.out.size _).grown hg4 (by simp; omega) (fun k hk => by have := own_ge hown3 k hk; omega)
  have hb4 := HQ.out.box.over bel4 HQ.out.box.inHeap
  have f0 := hb4.warm 0
  have d4 : w4.cell? ⟨B, 0, none⟩ = some (.slice (some ⟨b, off, none⟩) T.length cap) := hb4.read 0
  have HX4 := Lib.hid hb4
  have HB4 := Lib.hid bel4
  have HO := Lib.hid hown4
  have hBw := HQ.out.box.inHeap
  obtain ⟨g, cap4, rfl, hgb, hcap, hgh⟩ : ∃ g cap4, v4 = .slice (some ⟨g, 0, none⟩) (T.length + 1) cap4 ∧ w.heap.size ≤ g ∧ T.length + 1 ≤ cap4 ∧ g < w4.heap.size := by
    rcases hown4.2 with ⟨_, h0⟩ | ⟨g, cap, cur, e, h1, h2, h3, _⟩
    · omega
    · exact ⟨g, cap, e, h1, h3, (Array.getElem?_eq_some_iff.1 h2).1⟩
  clear hg4 bel4 hb4 hown4 hown3 d0
  go_wp2
  go_ret
  have hl : (T ++ [s]).length = T.length + 1 := by simp
  have HOn : Only B w w4 := ⟨HB4.out.os, HB4.out.tape, HB4.out.output, HB4.out.size, fun k hk _ => HB4.out.block k hk⟩
  refine ⟨rfl, _, _, ⟨box_eq (HX4.out.put 0 _) (by rw [hl]; rfl), fun j y hj => ?_, by rw [hl]; exact hcap⟩, HOn.put (.inl rfl) _⟩
  have hjl : j < T.length + 1 := by have := (List.getElem?_eq_some_iff.1 hj).1; omega
  refine ⟨g, 0, rfl, by simpa using hgh, ?_⟩
  rw [World.cell?_setCell_other _ _ _ _ (by intro h; simp only [Addr.mk.injEq] at h; omega), Nat.zero_add, World.ownsRow.cellAt HO.out j (by omega)]
  have e : strs T ++ [.string s] = strs (T ++ [s]) := by simp [strs]
  rw [e]
  unfold strs
  rw [List.getElem?_map, hj]
  rfl
set_option maxHeartbeats 1000000 in
theorem rsend_nil (h : Rq w B d m [] none 0) (s : ByteArray) (hs : s.size ≤ m) (h1 : 1 ≤ d) (hd : d ≤ 16) : Calls Try.prog 16 #[.pointer (some ⟨B, 0, none⟩), .string s] w fun e w' => e = .returned (.int .u8 0) ∧ ∃ a' cap', Rq w' B d m [s] a' cap' ∧ Only B w w' := by
  obtain ⟨i0, hi, iz0, iz1, iz2⟩ := info_parts info9
  have c0 : w.cell? ⟨B, 0, none⟩ = some (.slice none 0 0) := h.box.read 0
  have c1 : w.cell? ⟨B, 1, none⟩ = some (.int .i64 d) := h.box.read 1
  have c2 : w.cell? ⟨B, 2, none⟩ = some (.int .i64 m) := h.box.read 2
  have HQ := Lib.hid h
  have hnil := World.ownsRow_nil w w.heap.size 9 1
  clear h
  go_enter Try.func16, Try.ntmps16
  go_wp2
  go_quiet (fail)
  go_wp2_with (at_builtin; first | go_loud (refine wpList_append_own_none rfl _ _ 44 rfl w.heap.size 9 i0 1 Try.underlying44 hi (.slice none 0 0) 0 [] rfl (World.ownsRow_nil _ _ _ _) rfl ?_) | go_loud (refine wpList_append_own _ rfl _ _ 44 rfl w.heap.size 9 i0 (.string ⟨#[]⟩) 1 16 Try.underlying44 hi iz0 iz1 iz2 rfl (by decide) (.slice none 0 0) 0 [] rfl (World.ownsRow_nil _ _ _ _) ⟨w.heap.size, 0, none⟩ 1 1 [.string s] rfl rfl ?d1 ?d2 ?d3 ?d4 ?d5 ?_))
  case d1 =>
    intro j u hj
    match j, hj with
    | 0, hj =>
      simp at hj
      subst hj
      have hbm := Box.read (Box.made (w.drewN nq) 9 #[.string s]) 0
      simpa [Addr.add] using hbm
  case d2 => intro u hu; simp at hu; subst hu; rfl
  case d3 => unfold maxLen; omega
  case d4 => omega
  case d5 => simp; try omega
  intro v4 w4 hown4 hg4 _
  have bel4 : Below w.heap.size w w4 := ((below_drewN (Below.refl _ w) _).alloc (by simp) _).grown hg4 (by simp) (fun k hk => by simp [Value.ownBlock] at hk)
  have hb4 := HQ.out.box.over bel4 HQ.out.box.inHeap
  have f0 := hb4.warm 0
  have d4 : w4.cell? ⟨B, 0, none⟩ = some (.slice none 0 0) := hb4.read 0
  have HX4 := Lib.hid hb4
  have HB4 := Lib.hid bel4
  have HO := Lib.hid hown4
  have hBw := HQ.out.box.inHeap
  obtain ⟨g, cap4, rfl, hgb, hcap, hgh⟩ : ∃ g cap4, v4 = .slice (some ⟨g, 0, none⟩) 1 cap4 ∧ w.heap.size ≤ g ∧ 1 ≤ cap4 ∧ g < w4.heap.size := by
    rcases hown4.2 with ⟨_, h0⟩ | ⟨g, cap, cur, e, h1, h2, h3, _⟩
    · omega
    · exact ⟨g, cap, e, h1, h3, (Array.getElem?_eq_some_iff.1 h2).1⟩
  clear hg4 bel4 hb4 hown4 c0 c1 c2
  go_wp2
  go_ret
  have HOn : Only B w w4 := ⟨HB4.out.os, HB4.out.tape, HB4.out.output, HB4.out.size, fun k hk _ => HB4.out.block k hk⟩
  refine ⟨rfl, _, _, ⟨box_eq (HX4.out.put 0 _) rfl, fun j y hj => ?_, hcap⟩, HOn.put (.inl rfl) _⟩
  have hjl : j < 1 := (List.getElem?_eq_some_iff.1 hj).1
  obtain rfl : j = 0 := by omega
  refine ⟨g, 0, rfl, by simpa using hgh, ?_⟩
  rw [World.cell?_setCell_other _ _ _ _ (by intro h; simp only [Addr.mk.injEq] at h; omega), Nat.zero_add, World.ownsRow.cellAt HO.out 0 (by omega)]
  cases hj
  rfl
end
end Go.Proofs.Ytnignbpgcopehaa
