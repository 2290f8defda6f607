/- QueueOrder's body. -/
import Derived.Test.YtnignbpgcopehaaB
import Derived.Test.YtnignbpgcopehaaE
set_option linter.unusedVariables false
set_option linter.unusedSimpArgs false
namespace Go.Proofs.Ytnignbpgcopehaa
open Go.RowKit

theorem info9 : (Try.prog.info? 9).map (fun i => (i.zero, i.size, i.bytes)) = some (some (.string ⟨#[]⟩), 1, 16) := by kernel_rfl
/-- What is done. -/
structure Deed where
  k : Nat
  s : ByteArray
/-- A row of deeds that stands in memory. -/
def IsDeeds (w : World) (a : Option Addr) (len : Nat) (l : List Deed) : Prop :=
  l.length = len ∧ ∀ k (f : Deed), l[k]? = some f → ∃ b off, a = some ⟨b, off, none⟩ ∧ b < w.heap.size ∧ w.cell? ⟨b, off + 2 * k, none⟩ = some (.int .u8 f.k) ∧ w.cell? ⟨b, off + 2 * k + 1, none⟩ = some (.string f.s) ∧ f.k < 256
open Classical in
noncomputable def fewB (len : Nat) (l : List Deed) : Bool := decide (len ≤ 100 ∧ ∀ (j : Nat) (f : Deed), j < 110 → l[j]? = some f → f.s.size ≤ 100)
open Classical in
theorem fewB_yes {len : Nat} {l : List Deed} (h : len ≤ 100 ∧ ∀ (j : Nat) (f : Deed), j < 110 → l[j]? = some f → f.s.size ≤ 100) : fewB len l = true := decide_eq_true h
open Classical in
theorem fewB_no {len : Nat} {l : List Deed} (h : ¬ (len ≤ 100 ∧ ∀ (j : Nat) (f : Deed), j < 110 → l[j]? = some f → f.s.size ≤ 100)) : fewB len l = false := decide_eq_false h
open Classical in
theorem fewB_of {len : Nat} {l : List Deed} (h : fewB len l = true) : len ≤ 100 ∧ ∀ (j : Nat) (f : Deed), j < 110 → l[j]? = some f → f.s.size ≤ 100 := of_decide_eq_true h
theorem bool_eq {a b : Bool} (h : a = b) : Ending.returned (.bool a) = .returned (.bool b) := by rw [h]
theorem few_any (a : Option Addr) (len cap : Nat) (l : List Deed) (w : World) (hf : IsDeeds w a len l) : Calls Try.prog 9 #[.slice a len cap] w fun e w' => e = .returned (.bool (fewB len l)) ∧ w = w' := by
  have hlen := hf.1
  generalize hB : fewB len l = bb
  have HB := Lib.hid hB
  clear hB
  go_enter Try.func9, Try.ntmps9
  go_wp2
  go_loop [3] (fun i => ∃ k : Nat, k ≤ len ∧ k ≤ 110 ∧ i = .int .i64 k ∧ ∀ (j : Nat) (f : Deed), j < k → l[j]? = some f → f.s.size ≤ 100) (fun i => len - (intOf i).toNat)
  case atStart => exact ⟨0, Nat.zero_le _, by omega, rfl, fun j f h => by omega⟩
  case round =>
    obtain ⟨k, hk, hk2, rfl, hall⟩ := hrel
    have HA := Lib.hid hall
    clear hall
    have k1 : (0 : Int) ≤ (k : Int) := Int.natCast_nonneg _
    by_cases hlt : k < len
    · by_cases h110 : k < 110
      · obtain ⟨f, hk2⟩ : ∃ f, l[k]? = some f := ⟨_, List.getElem?_eq_getElem (by omega)⟩
        obtain ⟨b, off, rfl, hbb, c0, c1, hn⟩ := hf.2 k f hk2
        have d1 : w.cell? ⟨b, off + k * 2 + 1, none⟩ = some (.string f.s) := by rw [Nat.mul_comm]; exact c1
        have k2 : (k : Int) < (len : Int) := by omega
        have HK := Lib.hid hk2
        clear c0 c1 hk2 hf
        by_cases hs : 100 < f.s.size
        · go_wp2
          go_ret
          exact ⟨bool_eq (by rw [← HB.out]; exact (fewB_no fun h => by have := h.2 k f h110 HK.out; omega).symm), rfl⟩
        · go_wp2
          go_round
          case rel => exact ⟨k + 1, by omega, by omega, by go_num, fun j f' hj hf' => by
            by_cases e : j = k
            · subst e; have := HK.out; rw [hf'] at this; cases this; omega
            · exact HA.out j f' (by omega) hf'⟩
          case measure => simp [intOf]; omega
      · have h100 : ¬ len ≤ 100 := by omega
        clear hf
        go_wp2
        go_ret
        exact ⟨bool_eq (by rw [← HB.out]; exact (decide_eq_false (by omega)).trans (fewB_no fun h => by omega).symm), rfl⟩
    · obtain rfl : k = len := by omega
      clear hf
      by_cases h100 : k ≤ 100
      · go_wp2
        go_ret
        exact ⟨bool_eq (by rw [← HB.out]; exact (decide_eq_true (by omega)).trans (fewB_yes ⟨h100, fun j f _ hj => HA.out j f (by have := (List.getElem?_eq_some_iff.1 hj).1; omega) hj⟩).symm), rfl⟩
      · go_wp2
        go_ret
        exact ⟨bool_eq (by rw [← HB.out]; exact (decide_eq_false (by omega)).trans (fewB_no fun h => by omega).symm), rfl⟩
theorem few_true {len : Nat} {l : List Deed} (hl : l.length = len) (h : fewB len l = true) : len ≤ 100 ∧ ∀ (j : Nat) (f : Deed), l[j]? = some f → f.s.size ≤ 100 := by
  have h := fewB_of h
  exact ⟨h.1, fun j f hj => h.2 j f (by have := (List.getElem?_eq_some_iff.1 hj).1; omega) hj⟩
theorem own_only {w w' : World} {base : Nat} {e : TypeId} {size : Nat} {v : Value} {n : Nat} {xs : List Value} {b : Nat} (h : w.ownsRow base e size v n xs) (k : Only b w w') (hb : b < base) : w'.ownsRow base e size v n xs :=
  h.kept (row := some b) ⟨k.os, k.tape, k.output, k.size, fun i hi hne => k.block i hi (fun e => hne (by rw [e]))⟩ (by
    by_cases hv : v.ownBlock = none
    · exact .inl hv
    · right
      intro e
      have := (h.lt b e).1
      omega)
theorem own_shape {w : World} {base : Nat} {e : TypeId} {size : Nat} {v : Value} {n : Nat} {xs : List Value} (h : w.ownsRow base e size v n xs) : ∃ a cap, v = .slice a n cap ∧ (0 < n → ∃ g, a = some ⟨g, 0, none⟩) := by
  rcases h.2 with ⟨rfl, rfl⟩ | ⟨g, cap, cur, rfl, _⟩
  · exact ⟨none, 0, rfl, fun h => by omega⟩
  · exact ⟨_, cap, rfl, fun _ => ⟨g, rfl⟩⟩
def strs (T : List ByteArray) : List Value := T.map .string
/-- How things stand behind some deeds: the queue, the messages that were sent, how many were got. -/
structure St (w wr : World) (B base : Nat) (v : Value) (d m : Nat) (F : Nat → ByteArray) (f n g : Nat) (T : List ByteArray) : Prop where
  qu : Qu wr B d m F f n
  own : wr.ownsRow base 9 1 v (g + n) (strs T)
  len : T.length = g + n
  bel : Below w.heap.size w wr
  hB : w.heap.size ≤ B
  hb : B < base
  hs : base ≤ wr.heap.size
  ring : ∀ i, i < n → T[g + i]? = some (F ((f + i) % 16))
section
variable {w wr w2 : World} {B base : Nat} {v : Value} {d m : Nat} {F : Nat → ByteArray} {f n g : Nat} {T : List ByteArray}
theorem St.drawn (h : St w wr B base v d m F f n g T) (k : Nat) : St w (wr.drewN k) B base v d m F f n g T :=
  ⟨h.qu.drawn k, h.own, h.len, below_drewN h.bel k, h.hB, h.hb, h.hs, h.ring⟩
theorem St.same (h : St w wr B base v d m F f n g T) {k : Nat} (e : w2 = wr.drewN k) : St w w2 B base v d m F f n g T := by subst e; exact h.drawn k
theorem room_to {w : World} {B d m : Nat} {F : Nat → ByteArray} {f n : Nat} (h : Qu w B d m F f n) (z : Int) (hz : (d : Int) - n = z) : Calls Try.prog 20 #[.pointer (some ⟨B, 0, none⟩)] w fun e w' => e = .returned (.int .i64 z) ∧ ∃ k, w' = w.drewN k := by subst hz; exact room_any h
theorem St.more (h : St w wr B base v d m F f n g T) (o : Obj) : St w (wr.alloc o) B base v d m F f n g T :=
  ⟨h.qu.more o, h.own.alloc o, h.len, h.bel.alloc h.bel.size o, h.hB, h.hb, by have := h.hs; simp; omega, h.ring⟩
theorem St.got (h : St w wr B base v d m F f n g T) (hn : 0 < n) (hq : Qu w2 B d m (turn F f ⟨#[]⟩) ((f + 1) % 16) (n - 1)) (ho : Only B wr w2) : St w w2 B base v d m (turn F f ⟨#[]⟩) ((f + 1) % 16) (n - 1) (g + 1) T := by
  have e : g + 1 + (n - 1) = g + n := by omega
  refine ⟨hq, e ▸ own_only h.own ho h.hb, by rw [e]; exact h.len, h.bel.trans (ho.below h.hB h.bel.size), h.hB, h.hb, Nat.le_trans h.hs ho.size, fun i hi => ?_⟩
  have r := h.ring (i + 1) (by omega)
  have hf := h.qu.hf
  have hn := h.qu.hn
  have hd := h.qu.hd
  rw [show g + 1 + i = g + (i + 1) by omega, r, show ((f + 1) % 16 + i) % 16 = (f + (i + 1)) % 16 by omega, turn, if_neg (by omega)]
theorem St.sent (h : St w wr B base v d m F f n g T) {s : ByteArray} (hn : n < d) {w3 : World} {v' : Value} (hq : Qu w2 B d m (turn F ((f + n) % 16) s) f (n + 1)) (hbq : Below base w2 w3) (hb2 : Below w.heap.size w w3) (ho : w3.ownsRow base 9 1 v' (g + n + 1) (strs T ++ [.string s])) (hs3 : base ≤ w3.heap.size) :
    St w w3 B base v' d m (turn F ((f + n) % 16) s) f (n + 1) g (T ++ [s]) := by
  refine ⟨hq.over hbq h.hb, by simpa [strs, Nat.add_assoc] using ho, by simp [h.len, Nat.add_assoc], hb2, h.hB, h.hb, hs3, fun i hi => ?_⟩
  have hf := h.qu.hf
  have hd := h.qu.hd
  by_cases e : i = n
  · subst e
    rw [turn, if_pos rfl, List.getElem?_append_right (by rw [h.len]; exact Nat.le_refl _), h.len]; simp
  · rw [List.getElem?_append_left (by rw [h.len]; omega), h.ring i (by omega), turn, if_neg (by omega)]
end
set_option maxRecDepth 200000 in
theorem order_bad (d m : Nat) (a : Option Addr) (len cap : Nat) (l : List Deed) (h : ¬ (1 ≤ d ∧ d ≤ 16 ∧ 1 ≤ m ∧ m ≤ 64)) (w : World) (hf : IsDeeds w a len l) : Calls Try.prog 5 #[.int .u8 d, .int .u8 m, .slice a len cap] w (Yes w) := by
  have hF := few_any a len cap l w hf
  generalize hB : fewB len l = bb at hF
  have HF := Lib.hid hF
  clear hF hB
  cases bb
  all_goals go_enter Try.func5, Try.ntmps5
  all_goals go_wp2_with (go_at_call 7; refine (new_bad d m h _).mono ?_; rintro e w' ⟨rfl, rfl⟩)
  all_goals
    go_wp2_with (first | (go_at_call 10; refine (awake_any _).mono ?_; rintro e w' ⟨rfl, bel⟩) | (go_at_call 9; refine HF.out.mono ?_; rintro e w' ⟨rfl, rfl⟩))
    go_ret
    exact ⟨rfl, bel⟩
set_option maxHeartbeats 6400000 in
set_option maxRecDepth 200000 in
theorem order_ok (d m : Nat) (a : Option Addr) (len cap : Nat) (l : List Deed) (h1 : 1 ≤ d) (h2 : d ≤ 16) (h3 : 1 ≤ m) (h4 : m ≤ 64) (w : World) (hf : IsDeeds w a len l) : Calls Try.prog 5 #[.int .u8 d, .int .u8 m, .slice a len cap] w (Yes w) := by
  obtain ⟨i0, hi, iz0, iz1, iz2⟩ := info_parts info9
  have later : ∀ wx, Below w.heap.size w wx → IsDeeds wx a len l := fun wx bel => ⟨hf.1, fun k f hk => by
    obtain ⟨b, off, rfl, hbb, c0, c1, hn⟩ := hf.2 k f hk
    exact ⟨b, off, rfl, Nat.lt_of_lt_of_le hbb bel.size, (bel.cell (by exact hbb)).trans c0, (bel.cell (by exact hbb)).trans c1, hn⟩⟩
  have LA := Lib.hid later
  have hlen := hf.1
  clear later hf
  have hF := fun wx bel => few_any a len cap l wx (LA.out wx bel)
  generalize hB : fewB len l = bb at hF
  have HF := Lib.hid hF
  have HB := Lib.hid hB
  clear hF hB
  cases bb
  all_goals go_enter Try.func5, Try.ntmps5
  all_goals go_wp2_with (go_at_call 7; refine (new_ok d m h1 h2 h3 h4 _).mono ?_; rintro e w1 ⟨rfl, hq, bel1, hsz⟩)
  · go_wp2_with (first | (go_at_call 10; refine (awake_any _).mono ?_; rintro e w' ⟨rfl, bel⟩) | (go_at_call 9; refine (HF.out _ bel1).mono ?_; rintro e w' ⟨rfl, rfl⟩))
    go_ret
    exact ⟨rfl, bel1.trans (bel.mono bel1.size)⟩
  · go_wp2_with (go_at_call 9; refine (HF.out _ bel1).mono ?_; rintro e w' ⟨rfl, rfl⟩)
    obtain ⟨h100, hsz100⟩ := few_true hlen HB.out
    have hS : St w w1 w.heap.size (w.heap.size + 1) (.slice none 0 0) d m noS 0 0 0 [] := ⟨hq, World.ownsRow_nil _ _ _ _, rfl, bel1, Nat.le_refl _, by omega, hsz, fun i hi => by omega⟩
    clear hq bel1 hsz
    have HL := Lib.hid (show l.length = len from (LA.out w (Below.refl _ _)).1)
    have HZ := Lib.hid hsz100
    have hBB := hS.hb
    generalize hbe : w.heap.size + 1 = base at hS hBB
    generalize hBe : w.heap.size = B at hS hBB ⊢
    clear hsz100 hbe
    have HBe := Lib.hid hBe
    clear hBe
    go_wp2
    go_loopw [9, 10, 11] (fun v gg i wr => ∃ (k g f n : Nat) (F : Nat → ByteArray) (T : List ByteArray), k ≤ len ∧ i = .int .i64 k ∧ gg = .int .i64 g ∧ T.length ≤ k ∧ St w wr B base v d m F f n g T) (fun _ _ i _ => len - (intOf i).toNat)
    case atStart => exact ⟨0, 0, 0, 0, noS, [], Nat.zero_le _, rfl, rfl, Nat.le_refl _, hS⟩
    case round =>
      obtain ⟨k, g, f, n, F, T, hk, rfl, rfl, hTk, hst⟩ := hrel
      clear hS
      have k1 : (0 : Int) ≤ (k : Int) := Int.natCast_nonneg _
      by_cases hlt : k < len
      · obtain ⟨e, hk2⟩ : ∃ e, l[k]? = some e := ⟨_, List.getElem?_eq_getElem (by rw [HL.out]; exact hlt)⟩
        obtain ⟨b, off, rfl, hbb, c0, c1, hn⟩ := (LA.out wr hst.bel).2 k e hk2
        have d0 : wr.cell? ⟨b, off + k * 2, none⟩ = some (.int .u8 e.k) := by rw [Nat.mul_comm]; exact c0
        have d1 : wr.cell? ⟨b, off + k * 2 + 1, none⟩ = some (.string e.s) := by rw [Nat.mul_comm]; exact c1
        have k2 : (k : Int) < (len : Int) := by omega
        have hsz := HZ.out k e hk2
        rcases e with ⟨what, s⟩
        simp only at d0 d1 hn hsz
        clear c0 c1 hk2 hbb
        have HW := Lib.hid (show B < wr.heap.size from hst.qu.box.inHeap)
        have HS := Lib.hid (hst.more (.cells #[.int .u8 what, .string s] 33))
        have hTl := hst.len
        have hnd := hst.qu.hn
        obtain ⟨av, cv, rfl, hav⟩ := own_shape hst.own
        clear hst
        have hsg : s.size ≤ 100 := hsz
        have t1 : (g : Int) + (n : Int) - (g : Int) = (n : Int) := by omega
        have t2 : (n : Int) + ((d : Int) - (n : Int)) = (d : Int) := by omega
        by_cases q4 : what % 8 < 4
        · have q4' : ((what : Int) % 8 < 4) := by omega
          obtain ⟨z, hz⟩ : ∃ z : Int, (d : Int) - n = z := ⟨_, rfl⟩
          by_cases q1 : m < s.size
          · go_wp2_with (first | (go_at_call 20; refine (room_to HS.out.qu z hz).mono ?_; rintro e w2 ⟨rfl, kz, hw2⟩; have HS2 := Lib.hid (HS.out.same hw2); have hA2 : Box w2 wr.heap.size 33 #[.int .u8 what, .string s] := (by rw [hw2]; exact (Box.made _ _ _).drawn kz); have a0 : w2.cell? ⟨wr.heap.size, 0, none⟩ = some (.int .u8 what) := hA2.read 0; have a1 : w2.cell? ⟨wr.heap.size, 1, none⟩ = some (.string s) := hA2.read 1; have HA2 := Lib.hid hA2; clear hw2 hA2) | (go_at_call 15; refine (send_long HS2.out.qu s q1).mono ?_; rintro e w' ⟨rfl, rfl⟩))
            go_wp2_with (first | (go_at_call 21; refine (waiting_any HS2.out.qu).mono ?_; rintro e w' ⟨rfl, rfl⟩) | (go_at_call 20; refine (room_any HS2.out.qu).mono ?_; rintro e wy ⟨rfl, ky, hy⟩; have HY := Lib.hid (HS2.out.same hy); clear hy))
            go_roundw
            case rel => exact ⟨k + 1, g, f, n, F, T, by omega, by go_num, by first | rfl | go_num, by first | omega | (simp; omega), HY.out⟩
            case measure => simp [intOf]; omega
          · by_cases q2 : n = d
            · have hz0 : (d : Int) - n = 0 := by omega
              have q2a : n ≤ d := by omega
              have q2b : d ≤ n := by omega
              clear q2 hz
              go_wp2_with (first | (go_at_call 20; refine (room_to HS.out.qu 0 hz0).mono ?_; rintro e w2 ⟨rfl, kz, hw2⟩; have HS2 := Lib.hid (HS.out.same hw2); have hA2 : Box w2 wr.heap.size 33 #[.int .u8 what, .string s] := (by rw [hw2]; exact (Box.made _ _ _).drawn kz); have a0 : w2.cell? ⟨wr.heap.size, 0, none⟩ = some (.int .u8 what) := hA2.read 0; have a1 : w2.cell? ⟨wr.heap.size, 1, none⟩ = some (.string s) := hA2.read 1; have HA2 := Lib.hid hA2; clear hw2 hA2) | (go_at_call 15; refine (send_full HS2.out.qu s (by omega) (by omega)).mono ?_; rintro e w3 ⟨rfl, kx, hw3⟩; have HS3 := Lib.hid (HS2.out.same hw3); have hA3 : Box w3 wr.heap.size 33 #[.int .u8 what, .string s] := (by rw [hw3]; exact HA2.out.drawn kx); have b1 : w3.cell? ⟨wr.heap.size, 1, none⟩ = some (.string s) := hA3.read 1; clear hw3 hA3))
              go_wp2_with (first | (go_at_call 21; refine (waiting_any HS3.out.qu).mono ?_; rintro e w' ⟨rfl, rfl⟩) | (go_at_call 20; refine (room_any HS3.out.qu).mono ?_; rintro e wy ⟨rfl, ky, hy⟩; have HY := Lib.hid (HS3.out.same hy); clear hy))
              go_roundw
              case rel => exact ⟨k + 1, g, f, n, F, T, by omega, by go_num, by first | rfl | go_num, by first | omega | (simp; omega), HY.out⟩
              case measure => simp [intOf]; omega
            · have hz1 : 0 < z := by omega
              have hz2 : (z == 0) = false := beq_eq_false_iff_ne.2 (by omega)
              have hB := HS.out.hB
              have hbb := HS.out.hb
              have hss := HS.out.hs
              have hAB : B < wr.heap.size := HW.out
              clear t1 t2
              have t1 : (g : Int) + (n : Int) + 1 - (g : Int) = (n : Int) + 1 := by omega
              have t2 : (n : Int) + 1 + ((d : Int) - ((n : Int) + 1)) = (d : Int) := by omega
              go_wp2_with (first | (go_at_call 20; refine (room_to HS.out.qu z hz).mono ?_; rintro e w2 ⟨rfl, kz, hw2⟩; have HS2 := Lib.hid (HS.out.same hw2); have hA2 : Box w2 wr.heap.size 33 #[.int .u8 what, .string s] := (by rw [hw2]; exact (Box.made _ _ _).drawn kz); have a0 : w2.cell? ⟨wr.heap.size, 0, none⟩ = some (.int .u8 what) := hA2.read 0; have a1 : w2.cell? ⟨wr.heap.size, 1, none⟩ = some (.string s) := hA2.read 1; have HA2 := Lib.hid hA2; clear hw2 hA2) | (go_at_call 15; refine (send_ok HS2.out.qu s (by omega) (by omega)).mono ?_; rintro e w3 ⟨rfl, hq3, ho3⟩; have hA3 : Box w3 wr.heap.size 33 #[.int .u8 what, .string s] := HA2.out.only ho3 (by omega); have b1 : w3.cell? ⟨wr.heap.size, 1, none⟩ = some (.string s) := hA3.read 1; have H3 := Lib.hid (And.intro hq3 ho3); have hown := own_only HS2.out.own H3.out.2 hbb; have hs2 := HS2.out.hs; have hb3 : Below w.heap.size w w3 := HS2.out.bel.trans (H3.out.2.below HS2.out.hB HS2.out.bel.size); have hs3 : base ≤ w3.heap.size := Nat.le_trans hs2 H3.out.2.size; have HB3 := Lib.hid hb3; clear hb3; clear hq3 ho3 hA3) | (at_builtin; go_loud (refine wpList_append_own _ rfl _ _ 44 rfl base 9 i0 (.string ⟨#[]⟩) 1 16 Try.underlying44 hi iz0 iz1 iz2 rfl (by decide) _ _ _ rfl (hown.alloc _) ⟨w3.heap.size, 0, none⟩ 1 1 [.string s] rfl rfl ?c1 ?c2 ?c3 ?c4 ?c5 ?_)))
              case c1 =>
                intro j u hj
                match j, hj with
                | 0, hj => simp at hj; subst hj; simp [Addr.add]
              case c2 => intro u hu; simp at hu; subst hu; rfl
              case c3 => unfold maxLen; omega
              case c4 => omega
              case c5 => simp; omega
              · intro v' w4 hown' hgrow _
                have R1 : Below base w3 w4 := ((Below.refl base w3).alloc hs3 _).grown hgrow (by simp; omega) (own_ge hown)
                have R2 : Below w.heap.size w w4 := (HB3.out.alloc HB3.out.size _).grown hgrow (by have := HB3.out.size; simp; omega) (fun k hk => by have := own_ge hown k hk; omega)
                have HS4 := Lib.hid (HS2.out.sent (by omega) H3.out.1 R1 R2 hown' (Nat.le_trans hs3 R1.size))
                obtain ⟨a4, c4, rfl, _⟩ := own_shape hown'
                clear hown hown' hgrow R1 R2
                go_wp2_with (first | (go_at_call 21; refine (waiting_any HS4.out.qu).mono ?_; rintro e w' ⟨rfl, rfl⟩) | (go_at_call 20; refine (room_any HS4.out.qu).mono ?_; rintro e wy ⟨rfl, ky, hy⟩; have HY := Lib.hid (HS4.out.same hy); clear hy))
                go_roundw
                case rel => exact ⟨k + 1, g, f, (n + 1), _, _, by omega, by go_num, by first | rfl | go_num, by first | omega | (simp; omega), HY.out⟩
                case measure => simp [intOf]; omega
        · by_cases q7 : what % 8 < 7
          · have q4n : ¬ ((what : Int) % 8 < 4) := by omega
            have q7' : (what : Int) % 8 < 7 := by omega
            by_cases qn : n = 0
            · subst qn
              clear t1 t2
              go_wp2_with (go_at_call 11; refine (receive_none HS.out.qu).mono ?_; rintro e w' ⟨rfl, rfl⟩)
              go_wp2_with (first | (go_at_call 21; refine (waiting_any HS.out.qu).mono ?_; rintro e w' ⟨rfl, rfl⟩) | (go_at_call 20; refine (room_any HS.out.qu).mono ?_; rintro e wy ⟨rfl, ky, hy⟩; have HY := Lib.hid (HS.out.same hy); clear hy))
              go_roundw
              case rel => exact ⟨k + 1, g, f, 0, F, T, by omega, by go_num, by first | rfl | go_num, by first | omega | (simp; omega), HY.out⟩
              case measure => simp [intOf]; omega
            · obtain ⟨n', rfl⟩ : ∃ n', n = n' + 1 := ⟨n - 1, by omega⟩
              clear t1 t2
              have t1 : (g : Int) + ((n' : Int) + 1) - ((g : Int) + 1) = (n' : Int) := by omega
              have t2 : (n' : Int) + ((d : Int) - (n' : Int)) = (d : Int) := by omega
              have t3 : (g : Int) < (g : Int) + ((n' : Int) + 1) := by omega
              have t4 : (0 : Int) ≤ (g : Int) := Int.natCast_nonneg _
              obtain ⟨gg, rfl⟩ := hav (by omega)
              have hcg : ∀ wx, Only B (wr.alloc (.cells #[.int .u8 what, .string s] 33)) wx → wx.cell? ⟨gg, g, none⟩ = some (.string (F f)) := fun wx ho => by
                have hf := HS.out.qu.hf
                rw [World.ownsRow.cellAt (own_only HS.out.own ho HS.out.hb) g (by omega)]
                have r := HS.out.ring 0 (by omega)
                rw [Nat.add_zero, Nat.add_zero, Nat.mod_eq_of_lt hf] at r
                simp [strs, r]
              have HCG := Lib.hid hcg
              clear hcg
              go_wp2_with (go_at_call 11; refine (receive_ok HS.out.qu (by omega)).mono ?_; rintro e w2 ⟨rfl, hq2, ho2⟩; have HS2 : Hid (St w w2 B base _ d m _ _ n' (g + 1) T) := Lib.hid (HS.out.got (by omega) hq2 ho2); have cg := HCG.out w2 ho2; clear hq2 ho2)
              go_wp2_with (first | (go_at_call 21; refine (waiting_any HS2.out.qu).mono ?_; rintro e w' ⟨rfl, rfl⟩) | (go_at_call 20; refine (room_any HS2.out.qu).mono ?_; rintro e wy ⟨rfl, ky, hy⟩; have HY := Lib.hid (HS2.out.same hy); clear hy))
              go_roundw
              case rel => exact ⟨k + 1, (g + 1), _, n', _, T, by omega, by go_num, by first | rfl | go_num, by first | omega | (simp; omega), HY.out⟩
              case measure => simp [intOf]; omega
          · have q4n : ¬ ((what : Int) % 8 < 4) := by omega
            have q7n : ¬ ((what : Int) % 8 < 7) := by omega
            go_wp2_with (first | (go_at_call 21; refine (waiting_any HS.out.qu).mono ?_; rintro e w' ⟨rfl, rfl⟩) | (go_at_call 20; refine (room_any HS.out.qu).mono ?_; rintro e wy ⟨rfl, ky, hy⟩; have HY := Lib.hid (HS.out.same hy); clear hy))
            go_roundw
            case rel => exact ⟨k + 1, g, f, n, F, T, by omega, by go_num, by first | rfl | go_num, by first | omega | (simp; omega), HY.out⟩
            case measure => simp [intOf]; omega
      · have HST := Lib.hid hst
        clear hst
        go_wp2_with (go_at_call 10; refine (awake_any _).mono ?_; rintro e w9 ⟨rfl, bel9⟩)
        go_ret
        exact ⟨rfl, HST.out.bel.trans (bel9.mono HST.out.bel.size)⟩
end Go.Proofs.Ytnignbpgcopehaa
