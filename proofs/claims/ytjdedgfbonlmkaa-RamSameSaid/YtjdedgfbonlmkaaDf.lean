/- The document's memory: Bytes, Copy, New. -/
import Derived.Test.YtjdedgfbonlmkaaDe
set_option linter.unusedVariables false
set_option linter.unusedSimpArgs false
namespace Go.Proofs.Ytjdedgfbonlmkaa
open Go.RowKit
theorem own_over {w w' : World} {base : Nat} {e : TypeId} {size : Nat} {v : Value} {n : Nat} {xs : List Value} (h : w.ownsRow base e size v n xs) (k : Below w.heap.size w w') : w'.ownsRow base e size v n xs :=
  h.kept (row := none) ⟨k.os, k.tape, k.output, k.size, fun i hi _ => k.block i hi⟩ (by
    by_cases hv : v.ownBlock = none
    · exact .inl hv
    · exact .inr hv)
theorem own_mono {w : World} {base base' : Nat} {e : TypeId} {size : Nat} {v : Value} {n : Nat} {xs : List Value} (h : w.ownsRow base e size v n xs) (hb : base' ≤ base) : w.ownsRow base' e size v n xs := ⟨h.1, h.2.imp id (fun ⟨g, cap, cur, e, hg, r⟩ => ⟨g, cap, cur, e, by omega, r⟩)⟩
theorem strOfN (acc : List UInt8) : strOfNums (acc.map fun c => (c.toNat : Int)) = str acc := by
  simp only [strOfNums, str, List.map_map]
  congr 2
  have : ((fun n : Int => UInt8.ofNat n.toNat) ∘ fun c : UInt8 => (c.toNat : Int)) = id := by
    funext c; simp
  rw [this, List.map_id]
theorem conv_own {w : World} {base : Nat} {v : Value} {acc : List UInt8} (h : w.ownsRow base 5 1 v acc.length (vals acc)) : (convert 45 9 v).run Try.prog w = .ok (.string (str acc)) w := by
  have h2 := h.2
  rcases h2 with ⟨rfl, h0⟩ | ⟨g, cap, cur, rfl, hg, hh, hn, hcap, hsz, htake⟩
  · have : acc = [] := List.eq_nil_of_length_eq_zero h0
    subst this
    exact run_convert_bytes_nil (P := Try.prog) w 45 5 Try.underlying45 Try.underlying5 0 0 9 Try.underlying9
  · rw [run_convert_bytes_arg (P := Try.prog) w 45 5 Try.underlying45 Try.underlying5 g 0 acc.length cap (acc.map fun c => (c.toNat : Int)) (by simp) (fun i hi => by
      have := World.ownsRow.cellAt h i (by omega)
      rw [Nat.zero_add, this]
      simp [vals, List.getD, List.getElem?_map, List.getElem?_eq_getElem hi]) 9 Try.underlying9, strOfN]
theorem own_shape1 {w : World} {base n : Nat} {e : TypeId} {size : Nat} {v : Value} {xs : List Value} (h : w.ownsRow base e size v n xs) : ∃ a cap, v = .slice a n cap := by
  rcases h.2 with ⟨rfl, rfl⟩ | ⟨g, cap, cur, rfl, _⟩
  · exact ⟨none, 0, rfl⟩
  · exact ⟨_, cap, rfl⟩
theorem own_ge {w : World} {base : Nat} {e : TypeId} {size : Nat} {v : Value} {n : Nat} {xs : List Value} (h : w.ownsRow base e size v n xs) : ∀ k, v.ownBlock = some k → base ≤ k := fun k hk => (h.lt k hk).1
theorem take_more (l : List UInt8) (a k : Nat) (h : a + k < l.length) : vals ((l.drop a).take k) ++ [.int .u8 (at8 l (a + k) : Nat)] = vals ((l.drop a).take (k + 1)) := by
  have e : (l.drop a)[k]? = some l[a + k] := by rw [List.getElem?_drop, List.getElem?_eq_getElem h]
  rw [List.take_add_one, e]
  have e2 : at8 l (a + k) = (l[a + k]).toNat := by unfold at8; rw [List.getD_eq_getElem?_getD, List.getElem?_eq_getElem h]; rfl
  rw [e2]
  simp [vals]
section
variable {w w' : World} {C N at' wd base : Nat} {l : List UInt8} {L : List Ent} {v : Value}
theorem Dm.over (h : Dm w C N at' wd l base L v) (k : Below w.heap.size w w') : Dm w' C N at' wd l base L v :=
  ⟨h.box.over k h.box.inHeap, own_over h.own k, h.md, h.len, h.top, h.at1, Nat.le_trans h.hb k.size⟩
set_option maxHeartbeats 1000000 in
theorem dbytes_ok (h : Dm w C N at' wd l base L v) (a n : Nat) (ha : a + n ≤ N) : Calls Try.prog 34 #[.pointer (some ⟨C, 0, none⟩), .int .u64 a, .int .u64 n] w fun e w' => e = .returned (.tuple #[.string (str ((l.drop a).take n)), .int .i64 0]) ∧ Below w.heap.size w w' := by
  obtain ⟨i0, hi, iz0, iz1, iz2⟩ := info_parts info5
  have H0 := Lib.hid h
  have htop := h.top
  have hlen := h.len
  have HT := Lib.hid (dthere_any h a n)
  rw [decide_eq_true ha] at HT
  clear h
  go_enter Try.func34, Try.ntmps34
  go_wp2_with (go_at_call 49; refine HT.out.mono ?_; rintro e w' ⟨rfl, rfl⟩)
  go_loopw [8, 9] (fun b i wr => ∃ k : Nat, k ≤ n ∧ i = .int .u64 k ∧ wr.ownsRow w.heap.size 5 1 b k (vals ((l.drop a).take k)) ∧ Below w.heap.size w wr) (fun _ i _ => n - (intOf i).toNat)
  case atStart => exact ⟨0, Nat.zero_le _, rfl, World.ownsRow_nil _ _ _ _, Below.refl _ _⟩
  case round =>
    obtain ⟨k, hk, rfl, hown, bel⟩ := hrel
    have k1 : (0 : Int) ≤ (k : Int) := Int.natCast_nonneg _
    obtain ⟨ab, cap, rfl⟩ := own_shape1 hown
    have HO := Lib.hid hown
    have HB := Lib.hid bel
    have hsz := bel.size
    by_cases hlt : k < n
    · clear hown bel
      have k2 : (k : Int) < (n : Int) := by omega
      have hw2 : IntKind.u64.wrap ((k : Int) + 1) = (k : Int) + 1 := by show ((k : Int) + 1) % 18446744073709551616 = _; omega
      have HY := Lib.hid (fun z hz => dbyte_to (H0.out.over HB.out) (a + k) (by omega) z hz)
      have HTm := Lib.hid (take_more l a k (by omega))
      have hc := at8_lt l (a + k)
      generalize at8 l (a + k) = c at HY HTm hc
      go_wp2_with (first
        | (go_at_call 50; refine (HY.out ((a : Int) + (k : Int)) (by omega)).mono ?_; rintro e w2 ⟨rfl, rfl⟩)
        | (at_builtin; go_loud (refine wpList_append_own _ rfl _ _ 45 rfl w.heap.size 5 i0 (.int .u8 0) 1 1 Try.underlying45 hi iz0 iz1 iz2 rfl (by decide) _ _ _ rfl (HO.out.alloc _) ⟨_, 0, none⟩ 1 1 [.int .u8 c] rfl rfl ?d1 ?d2 ?d3 ?d4 ?d5 ?_)))
      case d1 =>
        intro j u hj
        match j, hj with
        | 0, hj => simp at hj; subst hj; simp [Addr.add]
      case d2 => first | rfl | (intro u hu; simp at hu; subst hu; rfl)
      case d3 => unfold maxLen; omega
      case d4 => omega
      case d5 => first | omega | (simp; omega)
      intro v2 w2 hown2 hg2 _
      have bel2 : Below w.heap.size w w2 := (HB.out.alloc HB.out.size _).grown hg2 (by simp; omega) (fun k hk => by have := own_ge HO.out k hk; omega)
      rw [HTm.out] at hown2
      have H2 := Lib.hid (And.intro hown2 bel2)
      clear hown2 bel2 hg2
      go_wp2
      go_roundw
      case rel => exact ⟨k + 1, by omega, by first | go_num | exact val_eq (by omega), H2.out.1, H2.out.2⟩
      case measure => simp [intOf]; omega
    · obtain rfl : k = n := by omega
      have hl : ((l.drop a).take k).length = k := by simp; omega
      have hcv := conv_own (acc := (l.drop a).take k) (by rw [hl]; exact hown)
      clear hown bel
      go_wp2
      go_ret2
      exact ⟨rfl, HB.out⟩
theorem dbytes_bad (h : Dm w C N at' wd l base L v) (a n : Nat) (ha : ¬ a + n ≤ N) : Calls Try.prog 34 #[.pointer (some ⟨C, 0, none⟩), .int .u64 a, .int .u64 n] w fun e w' => e = .returned (.tuple #[.string ⟨#[]⟩, .int .i64 6]) ∧ w = w' := by
  have HT := Lib.hid (dthere_any h a n)
  rw [decide_eq_false ha] at HT
  clear h
  go_enter Try.func34, Try.ntmps34
  go_wp2_with (go_at_call 49; refine HT.out.mono ?_; rintro e w' ⟨rfl, rfl⟩)
  go_ret2
  exact ⟨rfl, rfl⟩
theorem dnew_any (p : Nat) (h1 : 1 ≤ p) (h2 : p ≤ 16) (base : Nat) (w : World) (hb : base ≤ w.heap.size) : Calls Try.prog 11 #[.int .i64 p] w fun e w' => e = .returned (.pointer (some ⟨w.heap.size, 0, none⟩)) ∧ Dm w' w.heap.size (p * 4096) 0 0 (List.replicate (p * 4096) 0) base [] (.slice none 0 0) ∧ Below w.heap.size w w' ∧ w.heap.size < w'.heap.size := by
  have hw0 : IntKind.u64.wrap (p : Int) = (p : Int) := by show (p : Int) % 18446744073709551616 = _; omega
  have hw1 : IntKind.u64.wrap ((p : Int) * 4096) = (p : Int) * 4096 := by show ((p : Int) * 4096) % 18446744073709551616 = _; omega
  have hcs : (#[.int .u64 ((p : Int) * 4096), .slice none 0 0, .int .u64 0, .int .i64 0] : Array Value) = #[.int .u64 (p * 4096 : Nat), .slice none 0 0, .int .u64 (0 : Nat), .int .i64 (0 : Nat)] := by simp
  have HP : Hid (Dm (w.alloc (.cells #[.int .u64 ((p : Int) * 4096), .slice none 0 0, .int .u64 0, .int .i64 0] 33)) w.heap.size (p * 4096) 0 0 (List.replicate (p * 4096) 0) base [] (.slice none 0 0) ∧ Below w.heap.size w (w.alloc (.cells #[.int .u64 ((p : Int) * 4096), .slice none 0 0, .int .u64 0, .int .i64 0] 33)) ∧ w.heap.size < (w.alloc (.cells #[.int .u64 ((p : Int) * 4096), .slice none 0 0, .int .u64 0, .int .i64 0] 33)).heap.size) :=
    ⟨⟨box_eq (Box.made _ _ _) hcs, World.ownsRow_nil _ _ _ _, Md.nil _, by simp, by omega, by omega, by simp; omega⟩, (Below.refl _ _).alloc (Nat.le_refl _) _, by simp⟩
  clear hcs
  go_enter Try.func11, Try.ntmps11
  go_wp2
  go_ret
  exact ⟨rfl, HP.out⟩
end
end Go.Proofs.Ytjdedgfbonlmkaa
