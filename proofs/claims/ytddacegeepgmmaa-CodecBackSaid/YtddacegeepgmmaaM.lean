/- CodecBack's body. -/
import Derived.Test.YtddacegeepgmmaaL
set_option linter.unusedVariables false
set_option linter.unusedSimpArgs false
namespace Go.Proofs.Ytddacegeepgmmaa
open Go.RowKit

theorem Src.below {w w' : World} {X S0 B : Nat} {s : ByteArray} {p : Nat} {t : Bool} (h : Src w X S0 s p t) (k : Below B w w') (hX : X < B) (hS : S0 < B) : Src w' X S0 s p t := ⟨h.box.over k hX, h.txt.over k hS, h.ne, h.le⟩
/-- The whole text's source, and that of what was cut. -/
structure Two (w wr : World) (X SX Y SY : Nat) (s z : ByteArray) (p q : Nat) (t : Bool) : Prop where
  x : Src wr X SX s p false
  y : Src wr Y SY z q t
  bel : Below w.heap.size w wr
  hX : w.heap.size ≤ X
  hY : w.heap.size ≤ Y
  n1 : X ≠ Y
  n2 : SX ≠ Y
  n3 : SY ≠ X
theorem Two.goX {w wr w2 : World} {X SX Y SY : Nat} {s z : ByteArray} {p q p' : Nat} {t : Bool} (h : Two w wr X SX Y SY s z p q t) (hs : Src w2 X SX s p' false) (ho : Only X wr w2) : Two w w2 X SX Y SY s z p' q t :=
  ⟨hs, h.y.only ho h.n1.symm h.n3, h.bel.trans (ho.below h.hX h.bel.size), h.hX, h.hY, h.n1, h.n2, h.n3⟩
theorem Two.goY {w wr w2 : World} {X SX Y SY : Nat} {s z : ByteArray} {p q q' : Nat} {t t' : Bool} (h : Two w wr X SX Y SY s z p q t) (hs : Src w2 Y SY z q' t') (ho : Only Y wr w2) : Two w w2 X SX Y SY s z p q' t' :=
  ⟨h.x.only ho h.n1 h.n2, hs, h.bel.trans (ho.below h.hY h.bel.size), h.hX, h.hY, h.n1, h.n2, h.n3⟩
theorem Two.drawn {w wr : World} {X SX Y SY : Nat} {s z : ByteArray} {p q : Nat} {t : Bool} (h : Two w wr X SX Y SY s z p q t) (n : Nat) : Two w (wr.drewN n) X SX Y SY s z p q t :=
  ⟨h.x.drawn n, h.y.drawn n, below_drewN h.bel n, h.hX, h.hY, h.n1, h.n2, h.n3⟩
theorem pairA {w w1 wx wy : World} {s z : ByteArray} (b1 : Below w.heap.size w w1) (hx : Src wx (w1.drew.heap.size + 1) w1.drew.heap.size s 0 false) (hbx : Below w1.drew.heap.size w1.drew wx) (hzx : w1.drew.heap.size + 1 < wx.heap.size) (hy : Src wy (wx.heap.size + 1) wx.heap.size z 0 false) (hby : Below wx.heap.size wx wy) :
    Two w wy (w1.heap.size + 1) w1.heap.size (wx.heap.size + 1) wx.heap.size s z 0 0 false := by
  have hd : w1.drew.heap.size = w1.heap.size := rfl
  rw [hd] at hx hbx hzx
  have b2 : Below w.heap.size w w1.drew := below_drewN b1 1
  have hs := b1.size
  exact ⟨hx.below hby (by omega) (by omega), hy, (b2.trans (hbx.mono hs)).trans (hby.mono (by omega)), by omega, by omega, by omega, by omega, by omega⟩
theorem pairB {w w1 wx wy : World} {s z : ByteArray} (b1 : Below w.heap.size w w1) (hy : Src wy (w1.drew.heap.size + 1) w1.drew.heap.size z 0 false) (hby : Below w1.drew.heap.size w1.drew wy) (hzy : w1.drew.heap.size + 1 < wy.heap.size) (hx : Src wx (wy.heap.size + 1) wy.heap.size s 0 false) (hbx : Below wy.heap.size wy wx) :
    Two w wx (wy.heap.size + 1) wy.heap.size (w1.heap.size + 1) w1.heap.size s z 0 0 false := by
  have hd : w1.drew.heap.size = w1.heap.size := rfl
  rw [hd] at hy hby hzy
  have b2 : Below w.heap.size w w1.drew := below_drewN b1 1
  have hs := b1.size
  exact ⟨hx, hy.below hbx (by omega) (by omega), (b2.trans (hby.mono hs)).trans (hbx.mono (by omega)), by omega, by omega, by omega, by omega, by omega⟩
theorem fail_good {w : World} {X S0 p : Nat} {s : ByteArray} (h : Src w X S0 s p false) : Calls Try.prog 19 #[.pointer (some ⟨X, 0, none⟩)] w fun e w' => e = .returned (.int .i64 0) ∧ w = w' := fail_any h
theorem fail_torn {w : World} {X S0 p : Nat} {s : ByteArray} (h : Src w X S0 s p true) : Calls Try.prog 19 #[.pointer (some ⟨X, 0, none⟩)] w fun e w' => e = .returned (.int .i64 4) ∧ w = w' := fail_any h
theorem end_good {w : World} {X S0 p : Nat} {s : ByteArray} (h : Src w X S0 s p false) (hp : p = s.size) : Calls Try.prog 21 #[.pointer (some ⟨X, 0, none⟩)] w fun e w' => e = .returned (.int .i64 0) ∧ w = w' := by
  refine (end_any h).mono ?_
  rintro e w' ⟨rfl, rfl⟩
  subst hp
  exact ⟨ret_eq (by simp [endN]), rfl⟩
theorem wid_cases (v : Int) : ∃ d : Nat, wid v = d ∧ 1 ≤ d ∧ d ≤ 8 ∧ ((v < 1 ∧ d = 1) ∨ (8 < v ∧ d = 8) ∨ v = d) := by
  refine ⟨wid v, rfl, (wid_bd v).1, (wid_bd v).2, ?_⟩
  unfold wid
  (repeat' split) <;> omega
theorem back_long (a : Option Addr) (len cap c : Nat) (h : 100 < len) (w : World) : Calls Try.prog 5 #[.slice a len cap, .int .u16 c] w (Yes w) := by
  go_enter Try.func5, Try.ntmps5
  go_wp2_with (go_at_call 7; refine (awake_any _).mono ?_; rintro e w' ⟨rfl, bel⟩)
  go_ret
  exact ⟨rfl, bel⟩
set_option maxHeartbeats 12800000 in
set_option maxRecDepth 20000 in
theorem back_any (a : Option Addr) (len cap c : Nat) (hc : c < 65536) (l : List Fld) (hl : len ≤ 100) (w : World) (hf : IsFlds w a len l) : Calls Try.prog 5 #[.slice a len cap, .int .u16 c] w (Yes w) := by
  have hput := put_flds a len cap l w (by omega) hf
  have hlen := Lib.hid hf.1
  have HF := Lib.hid hf
  have hb8 := bytesOf_len l
  have hsz0 : (str (bytesOf l)).size ≤ 800 := by rw [str_size]; have := hf.1; omega
  clear hf hb8
  generalize hes : str (bytesOf l) = s at hput hsz0
  have HES := Lib.hid hes
  have HP := Lib.hid hput
  clear hes hput
  go_enter Try.func5, Try.ntmps5
  go_wp2_with (go_at_call 9; refine HP.out.mono ?_; rintro e w1 ⟨rfl, bel1⟩)
  have ek : (c : Int) % ((s.size : Int) + 1) = ((c % (s.size + 1) : Nat) : Int) := by simp
  have hk : c % (s.size + 1) ≤ s.size := by have := Nat.mod_lt c (show 0 < s.size + 1 by omega); omega
  rw [ek]
  clear ek
  generalize c % (s.size + 1) = k at hk ⊢
  have hzs : (s.extract 0 k).size = k := by rw [ByteArray.size_extract]; omega
  have r1 : ∀ wx : World, (Instr.slice 9 (.string s) none (some (.int .i64 (k : Int))) none).run Try.prog wx = .ok (.string (s.extract 0 k)) wx := fun wx => by
    rw [run_slice_string_to_if (h := Try.underlying9), if_pos ⟨Int.natCast_nonneg _, by omega⟩]; simp
  have hez : s.extract 0 k = str ((bytesOf l).take k) := by
    rw [← HES.out]
    apply ByteArray.ext
    simp [str, ByteArray.data_extract]
  have HEZ := Lib.hid hez
  clear hez
  generalize s.extract 0 k = z at hzs r1 HEZ
  have HB1 := Lib.hid bel1
  clear bel1
  go_region_with ((go_at_call 12; first | (have hxx := hx; clear hxx; refine (of_any z _).mono ?_; rintro e wy ⟨rfl, hy, hby, hzy⟩) | (refine (of_any s _).mono ?_; rintro e wx ⟨rfl, hx, hbx, hzx⟩)))
  all_goals first
    | (have hT := pairA HB1.out hx hbx hzx hy hby
       clear hx hbx hzx hy hby
       generalize wx.heap.size + 1 = Y at hT ⊢
       generalize w1.heap.size + 1 = X at hT ⊢
       generalize w1.heap.size = SX at hT
       generalize wx.heap.size = SY at hT)
    | (have hT := pairB HB1.out hy hby hzy hx hbx
       clear hx hbx hy hby hzy
       generalize wy.heap.size + 1 = X at hT ⊢
       generalize w1.heap.size + 1 = Y at hT ⊢
       generalize w1.heap.size = SY at hT
       generalize wy.heap.size = SX at hT)
  all_goals go_wp2
  have hP0 : place l 0 = 0 := by simp [place, bytesOf]
  have hPl : place l len = s.size := by
    rw [← hlen.out, place_all, ← HES.out, str_size]
  clear hzy
  go_loopw [9, 10] (fun at' i wr => ∃ (j q : Nat) (t : Bool), j ≤ len ∧ i = .int .i64 j ∧ at' = .int .i64 (place l j) ∧ Two w wr X SX Y SY s z (place l j) q t ∧ ((t = false ∧ q = place l j ∧ place l j ≤ k) ∨ (t = true ∧ k < place l j))) (fun _ i _ => len - (intOf i).toNat)
  case atStart => exact ⟨0, 0, false, Nat.zero_le _, rfl, by rw [hP0]; rfl, by rw [hP0]; exact hT, .inl ⟨rfl, hP0.symm, by omega⟩⟩
  case round =>
    obtain ⟨j, q, t, hj, rfl, rfl, hTw, hq⟩ := hrel
    clear hT
    by_cases hlt : j < len
    · obtain ⟨f, hk2⟩ : ∃ f, l[j]? = some f := ⟨_, List.getElem?_eq_getElem (by have := hlen.out; omega)⟩
      obtain ⟨b, off, rfl, hbb, c0, c1, hn⟩ := HF.out.2 j f hk2
      have later : ∀ wx, Below w.heap.size w wx → wx.cell? ⟨b, off + j * 2, none⟩ = some (.int .u64 f.n) ∧ wx.cell? ⟨b, off + j * 2 + 1, none⟩ = some (.int .i64 f.v) := fun wx bel => by
        rw [Nat.mul_comm]
        exact ⟨(bel.cell (by exact hbb)).trans c0, (bel.cell (by exact hbb)).trans c1⟩
      obtain ⟨d0, d1⟩ := later wr hTw.bel
      have LA := Lib.hid later
      clear c0 c1 later
      have hp1 := place_succ hk2
      have hle := place_le hk2
      have hls : (bytesOf l).length = s.size := by rw [← HES.out, str_size]
      rw [hls] at hle
      obtain ⟨d, hd, hd1, hd8, hdc⟩ := wid_cases f.v
      rw [hd] at hp1 hle
      have es : s = str ((bytesOf l).take (bytesOf l).length) := by rw [List.take_length]; exact HES.out.symm
      have TX := fun wq (h : Src wq X SX s (place l j) false) => take_whole hk2 (bytesOf l).length es rfl h (by omega) d hd hle
      have TG := fun wq (h : Src wq Y SY z (place l j) false) (hg : place l j + d ≤ k) => take_whole hk2 k HEZ.out rfl h (by omega) d hd (by rw [hzs]; exact hg)
      have TT := fun wq (h : Src wq Y SY z q t) (hg : t = true ∨ k < q + d) => take_torn h (by omega) f.v (by rw [hd, hzs]; exact hg)
      have LOW := low_any f.n f.v hn
      generalize place l j = p at *
      have HX := Lib.hid TX
      have HG := Lib.hid TG
      have HT := Lib.hid TT
      have HP1 := Lib.hid hp1
      have HL := Lib.hid LOW
      have k1 : (0 : Int) ≤ (j : Int) := Int.natCast_nonneg _
      have k2 : (j : Int) < (len : Int) := by omega
      clear es TX TG TT hp1 hk2 HF LOW hls hP0 hPl
      rcases f with ⟨n, v⟩
      simp only at hd hdc hn
      have HD := Lib.hid hd
      clear hd
      generalize lowN n v = N at *
      by_cases hg : p + d ≤ k
      · obtain ⟨rfl, rfl, _⟩ | ⟨rfl, hqk⟩ := hq
        · rcases hdc with ⟨hv, rfl⟩ | ⟨hv, rfl⟩ | rfl
          all_goals
            have HTw := Lib.hid hTw
            clear hTw
            go_wp2
            go_quiet ((go_at_call 23; exact Calls.quiet_of_same (HL.out _)))
            have HQ := Lib.hid (HTw.out.drawn nq)
            go_wp2_with (first
              | (go_at_call 15; refine (HG.out _ HH.out.y hg).mono ?_; rintro e w4 ⟨rfl, hs4, ho4⟩; have hc4 := HH.out.goY hs4 ho4; obtain ⟨g0, g1⟩ := LA.out _ hc4.bel; have HC := Lib.hid hc4; clear hs4 ho4 hc4)
              | (go_at_call 15; refine (HX.out _ HQ.out.x).mono ?_; rintro e w3 ⟨rfl, hs3, ho3⟩; have hh := HQ.out.goX hs3 ho3; obtain ⟨e0, e1⟩ := LA.out _ hh.bel; have HH := Lib.hid hh; clear hs3 ho3 hh)
              | (go_at_call 17; refine (at_any HH.out.x).mono ?_; rintro e w' ⟨rfl, rfl⟩)
              | (go_at_call 18; refine (left_any HH.out.x).mono ?_; rintro e w' ⟨rfl, rfl⟩)
              | (go_at_call 19; refine (fail_good HC.out.y).mono ?_; rintro e w' ⟨rfl, rfl⟩))
            go_roundw
            case rel => exact ⟨j + 1, _, false, by omega, by go_num, val_eq (by rw [HP1.out]; omega), by rw [HP1.out]; exact HC.out, .inl ⟨rfl, HP1.out.symm, by rw [HP1.out]; exact hg⟩⟩
            case measure => simp [intOf]; omega
        · omega
      · have hq2 : t = true ∨ k < q + d := by
          obtain ⟨rfl, rfl, _⟩ | ⟨rfl, hqk⟩ := hq
          · exact .inr (by omega)
          · exact .inl rfl
        have HQ2 := Lib.hid hq2
        clear hq2 hq
        have hg2 : k < p + d := by omega
        rcases hdc with ⟨hv, rfl⟩ | ⟨hv, rfl⟩ | rfl
        all_goals
          have HTw := Lib.hid hTw
          clear hTw
          go_wp2
          go_quiet ((go_at_call 23; exact Calls.quiet_of_same (HL.out _)))
          have HQ := Lib.hid (HTw.out.drawn nq)
          go_wp2_with (first
            | (go_at_call 15; refine (HT.out _ HH.out.y HQ2.out).mono ?_; rintro e w4 ⟨rfl, hs4, ho4⟩; have hc4 := HH.out.goY hs4 ho4; obtain ⟨g0, g1⟩ := LA.out _ hc4.bel; have HC := Lib.hid hc4; clear hs4 ho4 hc4)
            | (go_at_call 15; refine (HX.out _ HQ.out.x).mono ?_; rintro e w3 ⟨rfl, hs3, ho3⟩; have hh := HQ.out.goX hs3 ho3; obtain ⟨e0, e1⟩ := LA.out _ hh.bel; have HH := Lib.hid hh; clear hs3 ho3 hh)
            | (go_at_call 17; refine (at_any HH.out.x).mono ?_; rintro e w' ⟨rfl, rfl⟩)
            | (go_at_call 18; refine (left_any HH.out.x).mono ?_; rintro e w' ⟨rfl, rfl⟩)
            | (go_at_call 19; refine (fail_torn HC.out.y).mono ?_; rintro e w' ⟨rfl, rfl⟩))
          go_roundw
          case rel => exact ⟨j + 1, q, true, by omega, by go_num, val_eq (by rw [HP1.out]; omega), by rw [HP1.out]; exact HC.out, .inr ⟨rfl, by rw [HP1.out]; exact hg2⟩⟩
          case measure => simp [intOf]; omega
    · have hjl : j = len := by omega
      rw [hjl] at hTw
      have HTw := Lib.hid hTw
      have HPl := Lib.hid hPl
      clear hjl hTw hPl hP0 hq
      go_wp2_with (first | (go_at_call 21; refine (end_good HTw.out.x HPl.out).mono ?_; rintro e w' ⟨rfl, rfl⟩) | (go_at_call 7; refine (awake_any _).mono ?_; rintro e w9 ⟨rfl, bel9⟩))
      go_ret
      exact ⟨rfl, HTw.out.bel.trans (bel9.mono HTw.out.bel.size)⟩
end Go.Proofs.Ytddacegeepgmmaa
