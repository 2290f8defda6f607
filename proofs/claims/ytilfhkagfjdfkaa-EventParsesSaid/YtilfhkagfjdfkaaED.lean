/- Slices of events; Build. -/
import Derived.Test.YtilfhkagfjdfkaaEC
set_option linter.unusedVariables false
set_option linter.unusedSimpArgs false
namespace Go.Proofs.Ytilfhkagfjdfkaa
open Go.RowKit
attribute [local go_sem] Oper.semAt_some
/-- A slice of events that stands in memory. -/
def IsEvs (w : World) (v : Value) (l : List Ev) : Prop := ∃ a cap, v = .slice a l.length cap ∧ (∀ e ∈ l, e.wf) ∧ ∀ k (e : Ev), l[k]? = some e → ∃ b off, a = some ⟨b, off, none⟩ ∧ b < w.heap.size ∧ w.rangeAt b (off + k * 4) (evL e)
theorem range_below {w w' : World} {b o : Nat} {xs : List Value} (h : w.rangeAt b o xs) (hb : b < w.heap.size) (k : Below w.heap.size w w') : w'.rangeAt b o xs := fun j v hj => (k.cell (by exact hb)).trans (h j v hj)
theorem IsEvs.below {w w' : World} {v : Value} {l : List Ev} (h : IsEvs w v l) (k : Below w.heap.size w w') : IsEvs w' v l := by
  obtain ⟨a, cap, e, hw, hc⟩ := h
  refine ⟨a, cap, e, hw, fun i x hi => ?_⟩
  obtain ⟨b, off, e2, hb, hr⟩ := hc i x hi
  exact ⟨b, off, e2, Nat.lt_of_lt_of_le hb k.size, range_below hr hb k⟩
theorem own_evs {w : World} {base : Nat} {v : Value} {l : List Ev} (h : w.ownsRow base 46 4 v l.length (evs l)) (hw : ∀ e ∈ l, e.wf) : IsEvs w v l := by
  have h2 := h.2
  rcases h2 with ⟨rfl, h0⟩ | ⟨g, cap, cur, rfl, hg, hh, hn, hcap, hsz, htake⟩
  · have : l = [] := List.eq_nil_of_length_eq_zero h0
    subst this
    exact ⟨none, 0, rfl, hw, fun k e hk => by simp at hk⟩
  · refine ⟨some ⟨g, 0, none⟩, cap, rfl, hw, fun k e hk => ⟨g, 0, rfl, (Array.getElem?_eq_some_iff.1 hh).1, fun j u hj => ?_⟩⟩
    have hkl := (List.getElem?_eq_some_iff.1 hk).1
    have hj4 : j < 4 := (List.getElem?_eq_some_iff.1 hj).1
    rw [Nat.zero_add, World.ownsRow.cellAt h (k * 4 + j) (by omega), evs_at l k e hk j hj4]
    exact hj
/-- The bytes of an event. -/
def bytE (e : Ev) : List UInt8 := byt 4 e.t ++ (byt 1 e.g ++ (byt 1 e.k ++ byt 4 e.v))
def buildL : List Ev → List UInt8
  | [] => []
  | e :: l => bytE e ++ buildL l
def fdl (e : Ev) : List Fld := [⟨e.t, 4⟩, ⟨e.g, 1⟩, ⟨e.k, 1⟩, ⟨e.v, 4⟩]
def fdls : List Ev → List Fld
  | [] => []
  | e :: l => fdl e ++ fdls l
def fcl (e : Ev) : List Value := [.int .u64 e.t, .int .i64 4, .int .u64 e.g, .int .i64 1, .int .u64 e.k, .int .i64 1, .int .u64 e.v, .int .i64 4]
def fcls : List Ev → List Value
  | [] => []
  | e :: l => fcl e ++ fcls l
theorem fcls_app : ∀ a b : List Ev, fcls (a ++ b) = fcls a ++ fcls b
  | [], b => rfl
  | e :: l, b => by rw [List.cons_append, fcls, fcls, fcls_app l b, List.append_assoc]
theorem fdls_len : ∀ a : List Ev, (fdls a).length = 4 * a.length
  | [] => rfl
  | e :: l => by rw [fdls, List.length_append, fdls_len l, List.length_cons]; simp [fdl]; omega
theorem bytesOf_app (a b : List Fld) : bytesOf (a ++ b) = bytesOf a ++ bytesOf b := by simp [bytesOf]
theorem bytes_build : ∀ l : List Ev, bytesOf (fdls l) = buildL l
  | [] => rfl
  | e :: l => by
    rw [fdls, bytesOf_app, bytes_build l, buildL]
    congr 1
theorem fcls_at : ∀ (l : List Ev) (k : Nat) (f : Fld), (∀ e ∈ l, e.wf) → (fdls l)[k]? = some f → (fcls l)[2 * k]? = some (.int .u64 f.n) ∧ (fcls l)[2 * k + 1]? = some (.int .i64 f.v) ∧ f.n < 18446744073709551616
  | [], k, f, _, h => by simp [fdls] at h
  | e :: l, k, f, hw, h => by
    obtain ⟨h1, h2, h3, h4⟩ := hw e (List.mem_cons_self ..)
    rw [fdls] at h
    rw [fcls]
    by_cases hk : k < 4
    · rw [List.getElem?_append_left (by simpa [fdl] using hk)] at h
      rw [List.getElem?_append_left (by simp [fcl]; omega), List.getElem?_append_left (by simp [fcl]; omega)]
      rcases k with _ | _ | _ | _ | k
      · simp [fdl] at h; subst h; exact ⟨rfl, rfl, by show e.t < _; omega⟩
      · simp [fdl] at h; subst h; exact ⟨rfl, rfl, by show e.g < _; omega⟩
      · simp [fdl] at h; subst h; exact ⟨rfl, rfl, by show e.k < _; omega⟩
      · simp [fdl] at h; subst h; exact ⟨rfl, rfl, by show e.v < _; omega⟩
      · omega
    · rw [List.getElem?_append_right (by simp [fdl]; omega)] at h
      rw [List.getElem?_append_right (by simp [fcl]; omega), List.getElem?_append_right (by simp [fcl]; omega)]
      obtain ⟨a, b, c⟩ := fcls_at l (k - (fdl e).length) f (fun x hx => hw x (List.mem_cons_of_mem _ hx)) h
      have e4 : (fdl e).length = 4 := rfl
      have e8 : (fcl e).length = 8 := rfl
      rw [e4] at a b
      rw [e8]
      rw [show 2 * k - 8 = 2 * (k - 4) by omega, show 2 * k + 1 - 8 = 2 * (k - 4) + 1 by omega]
      exact ⟨a, b, c⟩
theorem infoF : (Try.prog.info? 67).map (fun i => (i.zero, i.size, i.bytes)) = some (some (.agg #[.int .u64 0, .int .i64 0]), 2, 16) := by kernel_rfl
set_option maxRecDepth 100000 in
theorem put_nil (w : World) : Calls Try.prog 31 #[.slice none 0 0] w fun e w' => e = .returned (.string (str [])) ∧ Below w.heap.size w w' := by
  have r1 := run_convert_bytes_nil (P := Try.prog) w 53 5 Try.underlying53 Try.underlying5 0 0 9 Try.underlying9
  go_enter Try.func31, Try.ntmps31
  go_wp2
  go_loop [3, 9] (fun v i => v = .slice none 0 0 ∧ i = .int .i64 0) (fun _ _ => 0)
  case atStart => exact ⟨rfl, rfl⟩
  case round =>
    obtain ⟨rfl, rfl⟩ := hrel
    go_wp2
    go_ret
    exact ⟨rfl, Below.refl _ _⟩
set_option maxHeartbeats 8000000 in
set_option maxRecDepth 100000 in
theorem build_any (w : World) (v : Value) (l : List Ev) (h : IsEvs w v l) (hl : l.length ≤ 250) : Calls Try.prog 14 #[v] w fun e w' => e = .returned (.string (str (buildL l))) ∧ Below w.heap.size w w' := by
  obtain ⟨i0, hi, iz0, iz1, iz2⟩ := info_parts infoF
  have HV := Lib.hid h
  obtain ⟨a, cap, rfl, hwf, _⟩ := h
  have HW := Lib.hid hwf
  clear hwf
  obtain ⟨len, hlen⟩ : ∃ len, l.length = len := ⟨_, rfl⟩
  rw [hlen]
  have HL := Lib.hid hlen
  have hl2 : len ≤ 250 := by omega
  clear hlen hl
  go_enter Try.func14, Try.ntmps14
  go_wp2_with fail
  go_loopw [3, 8] (fun f i wr => ∃ k : Nat, k ≤ len ∧ i = .int .i64 k ∧ wr.ownsRow w.heap.size 67 2 f (4 * k) (fcls (l.take k)) ∧ Below w.heap.size w wr) (fun _ i _ => len - (intOf i).toNat)
  case atStart => exact ⟨0, Nat.zero_le _, rfl, World.ownsRow_nil _ _ _ _, Below.refl _ _⟩
  case round =>
    obtain ⟨k, hk, rfl, hown, hb⟩ := hrel
    have k1 : (0 : Int) ≤ (k : Int) := Int.natCast_nonneg _
    by_cases hlt : k < len
    · have k2 : (k : Int) < (len : Int) := by omega
      obtain ⟨e, he⟩ : ∃ e, l[k]? = some e := ⟨_, List.getElem?_eq_getElem (by rw [HL.out]; exact hlt)⟩
      have hew := HW.out e (List.mem_of_getElem? he)
      obtain ⟨a', cap', hq, _, hc⟩ := HV.out.below hb
      cases hq
      obtain ⟨b, off, rfl, hbb, hr⟩ := hc k e he
      have HR := Lib.hid hr
      have HB := Lib.hid (And.intro hown hb)
      have HT : Hid (fcls (l.take (k + 1)) = fcls (l.take k) ++ fcl e) := Lib.hid (by
        rw [List.take_add_one, he]
        show fcls (_ ++ [e]) = _
        rw [fcls_app]
        simp [fcls])
      clear hr hown hb hc he
      obtain ⟨et, eg, ek, ev⟩ := e
      obtain ⟨w1', w2', w3', w4'⟩ := hew
      simp only at w1' w2' w3' w4'
      have q1 : IntKind.u64.wrap (et : Int) = (et : Int) := by rw [IntKind.wrap_u64]; omega
      have q2 : IntKind.u64.wrap (eg : Int) = (eg : Int) := by rw [IntKind.wrap_u64]; omega
      have q3 : IntKind.u64.wrap (ek : Int) = (ek : Int) := by rw [IntKind.wrap_u64]; omega
      have q4 : IntKind.u64.wrap (ev : Int) = (ev : Int) := by rw [IntKind.wrap_u64]; omega
      clear w1' w2' w3' w4'
      go_wp2_with (first
        | (refine wpList_load_mid rfl 46 _ rfl b (off + k * 4) rfl (evL ⟨et, eg, ek, ev⟩) _ HR.out Try.underlying46 rfl rfl ?_)
        | (refine wpList_store_box rfl 46 _ _ rfl wr.heap.size #[.int .u32 et, .int .u8 eg, .int .u8 ek, .int .u32 ev] rfl rfl 46 _ (Box.made wr 46 _) (by kernel_rfl) rfl (by rw [← Array.all_toList]; rfl) ?_; intro w3 hb3 hbl3; have x0 := hb3.read 0; have x1 := hb3.read 1; have x2 := hb3.read 2; have x3 := hb3.read 3; have H3 : Hid (w3.ownsRow w.heap.size 67 2 u3 (4 * k) (fcls (l.take k)) ∧ Below w.heap.size w w3) := Lib.hid ⟨own_below HB.out.1 (((Below.refl _ _).alloc (Nat.le_refl _) _).trans hbl3), HB.out.2.trans ((((Below.refl _ _).alloc (Nat.le_refl _) _).trans hbl3).mono HB.out.2.size)⟩; clear hb3 hbl3; simp only [List.getElem?_toArray, List.getElem?_cons_zero, List.getElem?_cons_succ] at x0 x1 x2 x3)
        | (at_builtin; go_loud (refine wpList_append_own _ rfl _ _ 65 rfl w.heap.size 67 i0 (.agg #[.int .u64 0, .int .i64 0]) 2 16 Try.underlying65 hi iz0 iz1 iz2 rfl (by decide) _ (4 * k) (fcls (l.take k)) rfl (H3.out.1.alloc _) ⟨w3.heap.size, 0, none⟩ 4 4 (fcl ⟨et, eg, ek, ev⟩) rfl rfl ?c1 ?c2 ?c3 ?c4 ?c5 ?_)))
      case c1 =>
        intro j u hj2
        rcases j with _ | _ | _ | _ | _ | _ | _ | _ | j
        all_goals (simp [fcl] at hj2)
        all_goals (try (subst hj2; simp [Addr.add]))
      case c2 => intro u hu; simp [fcl] at hu; rcases hu with rfl | rfl | rfl | rfl | rfl | rfl | rfl | rfl <;> rfl
      case c3 => unfold maxLen; omega
      case c4 => omega
      case c5 => rw [World.size_alloc]; exact Nat.le_succ_of_le H3.out.2.size
      · intro v' w7 hown' hgrow _
        have H7 : Hid (w7.ownsRow w.heap.size 67 2 v' (4 * (k + 1)) (fcls (l.take (k + 1))) ∧ Below w.heap.size w w7) := Lib.hid ⟨by rw [HT.out]; exact hown', H3.out.2.grown (grow_alloc hgrow) H3.out.2.size (fun i hi => (H3.out.1.lt i hi).1)⟩
        clear hown' hgrow
        go_wp2
        go_roundw
        case rel => exact ⟨k + 1, by omega, by go_num, H7.out.1, H7.out.2⟩
        case measure => simp [intOf]; omega
    · obtain rfl : k = len := by omega
      have hll : l.take k = l := by rw [← HL.out, List.take_length]
      rw [hll] at hown
      have HO := Lib.hid (And.intro hown hb)
      clear hown hb hlt hll
      have hput : Hid (Calls Try.prog 31 #[u3] wr fun e w' => e = .returned (.string (str (buildL l))) ∧ Below wr.heap.size wr w') := Lib.hid (by
        have h2 := HO.out.1.2
        rcases h2 with ⟨rfl, h0⟩ | ⟨g, cp, cur, rfl, hg, hh, hn, hcap, hsz, htake⟩
        · have : l = [] := List.eq_nil_of_length_eq_zero (by rw [HL.out]; omega)
          subst this
          exact put_nil wr
        · have := put_any g 0 (4 * k) cp (fdls l) wr (by rw [fdls_len, HL.out]) (by omega) ((Array.getElem?_eq_some_iff.1 hh).1) (fun j f hj => by
            obtain ⟨a, b, c⟩ := fcls_at l j f HW.out hj
            have hjl : j < 4 * k := by
              have := (List.getElem?_eq_some_iff.1 hj).1
              rw [fdls_len, HL.out] at this
              exact this
            rw [Nat.zero_add, World.ownsRow.cellAt HO.out.1 (2 * j) (by omega), World.ownsRow.cellAt HO.out.1 (2 * j + 1) (by omega)]
            exact ⟨a, b, c⟩)
          rw [bytes_build] at this
          exact this)
      go_wp2_with (go_at_call 31; refine hput.out.mono ?_; rintro e w9 ⟨rfl, hz⟩)
      go_ret
      exact ⟨rfl, HO.out.2.trans (hz.mono HO.out.2.size)⟩
end Go.Proofs.Ytilfhkagfjdfkaa
