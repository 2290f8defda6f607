/- The document's queue: Dump. -/
import Derived.Test.YtnignbpgcopehaaQd
import Derived.Test.YtnignbpgcopehaaHp
set_option linter.unusedVariables false
set_option linter.unusedSimpArgs false
namespace Go.Proofs.Ytnignbpgcopehaa
open Go.RowKit
theorem conv_one1 (c : Int) (W : World) : (convert 70 9 (.slice (some ⟨W.heap.size, 0, none⟩) 1 1)).run Try.prog (W.alloc (.cells #[.int .u8 c] 5)).drew = .ok (.string ⟨#[UInt8.ofNat c.toNat]⟩) (W.alloc (.cells #[.int .u8 c] 5)).drew := by
  have h := run_convert_bytes_arg (P := Try.prog) (W.alloc (.cells #[.int .u8 c] 5)).drew 70 5 Try.underlying70 Try.underlying5 W.heap.size 0 1 1 [c] rfl (fun i hi => by
    obtain rfl : i = 0 := by omega
    simp) 9 Try.underlying9
  rw [h]
  rfl
section
variable {w w' : World} {B d m cap : Nat} {Ms : List Sm} {a : Option Addr}
set_option maxHeartbeats 1000000 in
set_option maxRecDepth 200000 in
theorem rdump_any (h : Rq w B d m (Ms.map (·.1)) a cap) (hn : Ms.length ≤ 16) : Calls Try.prog 27 #[.pointer (some ⟨B, 0, none⟩)] w fun e w' => e = .returned (.string (dumpM Ms.length Ms)) ∧ Below w.heap.size w w' := by
  have hbx : Box w B 56 #[.slice a Ms.length cap, .int .i64 d, .int .i64 m] := by have := h.box; rwa [List.length_map] at this
  have HB := Lib.hid hbx
  have HR := Lib.hid h.strs
  have c0 : w.cell? ⟨B, 0, none⟩ = some (.slice a Ms.length cap) := hbx.read 0
  clear h hbx
  go_enter Try.func27, Try.ntmps27
  go_wp2
  rw [conv_one0 (Ms.length : Int) w]
  go_wp2
  have hbl : Below w.heap.size w (w.alloc (.cells #[.int .u8 Ms.length] 5)) := (Below.refl _ _).alloc (Nat.le_refl _) _
  generalize w.alloc (.cells #[.int .u8 Ms.length] 5) = w1 at hbl ⊢
  go_loopw [3, 4] (fun v i wr => ∃ k : Nat, k ≤ Ms.length ∧ i = .int .i64 k ∧ v = .string (dumpM Ms.length (Ms.take k)) ∧ Below w.heap.size w wr) (fun _ i _ => Ms.length - (intOf i).toNat)
  case atStart => exact ⟨0, Nat.zero_le _, rfl, rfl, hbl⟩
  case round =>
    obtain ⟨k, hk, rfl, rfl, bel⟩ := hrel
    clear hbl c0
    have k1 : (0 : Int) ≤ (k : Int) := Int.natCast_nonneg _
    have HB2 := Lib.hid (HB.out.over bel HB.out.inHeap)
    have c0 : wr.cell? ⟨B, 0, none⟩ = some (.slice a Ms.length cap) := HB2.out.read 0
    have HBe := Lib.hid bel
    by_cases hlt : k < Ms.length
    · have k2 : (k : Int) < (Ms.length : Int) := by omega
      obtain ⟨b, off, rfl, hbb, hcl⟩ := (HR.out.over bel) k (Ms[k]).1 (by rw [List.getElem?_map, List.getElem?_eq_getElem hlt]; rfl)
      have hT : Ms.take (k + 1) = Ms.take k ++ [Ms[k]] := by rw [List.take_succ_eq_append_getElem hlt]
      have HT := Lib.hid hT
      have hx := (Ms[k]).2
      have hz := dumpM_size Ms.length (Ms.take k)
      have hzl : (Ms.take k).length ≤ 16 := by rw [List.length_take]; omega
      have hsn := dumpM_snoc Ms.length (Ms.take k) Ms[k]
      have HSN := Lib.hid hsn
      generalize Ms[k] = y at hcl hx HT HSN
      obtain ⟨y, hy⟩ := y
      simp only at hcl hx HSN
      clear hT bel hsn
      have y1 : ¬ 9223372036854775807 < (dumpM Ms.length (Ms.take k)).size + 1 := by omega
      have y2 : ¬ 9223372036854775807 < (dumpM Ms.length (Ms.take k)).size + 1 + y.size := by omega
      have y3 : ¬ 9223372036854775807 < (dumpM Ms.length (Ms.take k) ++ ⟨#[UInt8.ofNat y.size]⟩).size + y.size := by rw [ByteArray.size_append]; exact y2
      go_wp2
      refine wp_region_calm (fun w' => w'.cell? ⟨B, 0, none⟩ = some (.slice (some ⟨b, off, none⟩) Ms.length cap) ∧ w'.cell? ⟨b, off + k, none⟩ = some (.string y))
        (.e 0 :: .e 0 :: .e 0 :: .e 0 :: .e 0 :: .e 0 :: .e 0 :: .e 0 :: .e 0 :: .e 0 :: .e 3 :: .e 3 :: .e 3 :: .e 3 :: .e 3 :: .e 3 :: .e 3 :: .l 0 :: .l 0 :: .e 0 :: .e 0 :: .e 0 :: []) (by kernel_rfl) (by kernel_rfl) (by kernel_rfl) (by kernel_rfl) ?_
      have hb4 := HB2.out.drawn1
      have hcl2 : wr.drew.cell? ⟨b, off + k, none⟩ = some (.string y) := by have := hcl; simpa using this
      have hHeld : (wr.drew.cell? ⟨B, 0, none⟩ = some (.slice (some ⟨b, off, none⟩) Ms.length cap) ∧ wr.drew.cell? ⟨b, off + k, none⟩ = some (.string y)) := ⟨hb4.read 0, hcl2⟩
      have hbl2 : Below wr.heap.size wr (wr.alloc (.cells #[.int .u8 y.size] 5)).drew := ((Below.refl _ _).alloc (Nat.le_refl _) _).drew
      have HBl := Lib.hid (HBe.out.trans (hbl2.mono HBe.out.size))
      have HH2 : Hid ((wr.alloc (.cells #[.int .u8 y.size] 5)).drew.cell? ⟨B, 0, none⟩ = some (.slice (some ⟨b, off, none⟩) Ms.length cap) ∧ (wr.alloc (.cells #[.int .u8 y.size] 5)).drew.cell? ⟨b, off + k, none⟩ = some (.string y)) :=
        Lib.hid ⟨(HB2.out.over hbl2 HB2.out.inHeap).read 0, (hbl2.cell (by exact hbb)).trans hcl⟩
      have hsw : IntKind.u8.wrap (y.size : Int) = (y.size : Int) := by show (y.size : Int) % 256 = _; omega
      clear hb4 hbl2
      repeat (first
        | (refine mv_take0 (v := ?_) (by rfl) hHeld ?_ ?_; rotate_left 1; (focus (intro w hSw; (try dsimp only at hSw); obtain ⟨g0, g1⟩ := hSw; go_simp; (try with_reducible rfl))); (try simp only [Act.put, List.setIfInBounds_toArray, List.set_cons_zero, List.set_cons_succ]))
        | (refine mv_take3 (v := ?_) (by rfl) hHeld ?_ ?_; rotate_left 1; (focus (intro w hSw; (try dsimp only at hSw); obtain ⟨g0, g1⟩ := hSw; go_simp; (try with_reducible rfl))); (try simp only [Act.put, List.setIfInBounds_toArray, List.set_cons_zero, List.set_cons_succ]))
        | (refine mv_loud0 (by rfl) (fun K hK => ?_)
           go_simp
           first
             | (rw [conv_one1 (y.size : Int) wr]; go_simp; refine hK.out _ _ hHeld ?_)
             | (refine hK.out _ _ HH2.out ?_; clear hHeld; have hHeld := HH2.out)
           clear hK K
           (try simp only [Act.put, List.setIfInBounds_toArray, List.set_cons_zero, List.set_cons_succ])))
      refine mv_calm ?_
      go_wp2
      go_roundw
      case rel => exact ⟨k + 1, by omega, by go_num, by rw [HT.out, HSN.out, ← ByteArray.append_assoc]; rfl, HBl.out⟩
      case measure => simp [intOf]; omega
    · have hke : k = Ms.length := by omega
      subst hke
      go_wp2
      go_ret
      exact ⟨by rw [List.take_length]; rfl, HBe.out⟩
end
end Go.Proofs.Ytnignbpgcopehaa
