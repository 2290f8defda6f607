/- What codec.Put answers: the bytes of its fields, in order. -/
import Derived.Test.YtilfhkagfjdfkaaCD
import Derived.Laws.AppendOwn
import Derived.OwnWalk
set_option linter.unusedVariables false
set_option linter.unusedSimpArgs false
namespace Go.Proofs.Ytilfhkagfjdfkaa
open Go.RowKit

/-- A field: a number, and in how many bytes it stands. -/
structure Fld where
  n : Nat
  v : Int
/-- A row of fields that stands in memory. -/
def IsFlds (w : World) (a : Option Addr) (len : Nat) (l : List Fld) : Prop :=
  l.length = len ∧ ∀ k (f : Fld), l[k]? = some f → ∃ b off, a = some ⟨b, off, none⟩ ∧ b < w.heap.size ∧ w.cell? ⟨b, off + 2 * k, none⟩ = some (.int .u64 f.n) ∧ w.cell? ⟨b, off + 2 * k + 1, none⟩ = some (.int .i64 f.v) ∧ f.n < 18446744073709551616
def bytesOf (l : List Fld) : List UInt8 := (l.map fun f => byt (wid f.v) f.n).flatten
def vals (l : List UInt8) : List Value := l.map fun c => .int .u8 c.toNat
theorem info5 : (Try.prog.info? 5).map (fun i => (i.zero, i.size, i.bytes)) = some (some (.int .u8 0), 1, 1) := by kernel_rfl
theorem bytesOf_snoc (l : List Fld) (f : Fld) : bytesOf (l ++ [f]) = bytesOf l ++ byt (wid f.v) f.n := by simp [bytesOf]
theorem bytesOf_len (l : List Fld) : (bytesOf l).length ≤ 8 * l.length := by
  induction l with
  | nil => simp [bytesOf]
  | cons f l ih =>
    have := (wid_bd f.v).2
    simp only [bytesOf, List.map_cons, List.flatten_cons, List.length_append, byt_len, List.length_cons] at *
    omega
theorem own_ge {w : World} {base : Nat} {e : TypeId} {size : Nat} {v : Value} {n : Nat} {xs : List Value} (h : w.ownsRow base e size v n xs) : ∀ k, v.ownBlock = some k → base ≤ k := by
  obtain ⟨_, h2⟩ := h
  intro k hk
  rcases h2 with ⟨rfl, _⟩ | ⟨g, cap, cur, rfl, hg, _⟩
  · cases hk
  · simp [Value.ownBlock] at hk
    omega
theorem own_more {w : World} {base : Nat} {v : Value} {acc : List UInt8} {m : Nat} (h : w.ownsRow base 5 1 v (acc.length + 1) (vals acc ++ [.int .u8 ((m : Int) % 256)])) :
    w.ownsRow base 5 1 v (acc ++ [UInt8.ofNat (m % 256)]).length (vals (acc ++ [UInt8.ofNat (m % 256)])) := by
  have e : (UInt8.ofNat (m % 256)).toNat = m % 256 := by rw [UInt8.toNat_ofNat']; omega
  have e2 : vals (acc ++ [UInt8.ofNat (m % 256)]) = vals acc ++ [.int .u8 ((m : Int) % 256)] := by
    simp only [vals, List.map_append, List.map_cons, List.map_nil, e]
    rfl
  rw [e2, List.length_append]
  exact h
theorem strOf (acc : List UInt8) : strOfNums (acc.map fun c => (c.toNat : Int)) = str acc := by
  simp only [strOfNums, str, List.map_map]
  congr 2
  have : ((fun n : Int => UInt8.ofNat n.toNat) ∘ fun c : UInt8 => (c.toNat : Int)) = id := by
    funext c; simp
  rw [this, List.map_id]
theorem conv_own {w : World} {base : Nat} {v : Value} {acc : List UInt8} (h : w.ownsRow base 5 1 v acc.length (vals acc)) : (convert 53 9 v).run Try.prog w = .ok (.string (str acc)) w := by
  have h2 := h.2
  rcases h2 with ⟨rfl, h0⟩ | ⟨g, cap, cur, rfl, hg, hh, hn, hcap, hsz, htake⟩
  · have : acc = [] := List.eq_nil_of_length_eq_zero h0
    subst this
    exact run_convert_bytes_nil (P := Try.prog) w 53 5 Try.underlying53 Try.underlying5 0 0 9 Try.underlying9
  · rw [run_convert_bytes_arg (P := Try.prog) w 53 5 Try.underlying53 Try.underlying5 g 0 acc.length cap (acc.map fun c => (c.toNat : Int)) (by simp) (fun i hi => by
      have := World.ownsRow.cellAt h i (by omega)
      rw [Nat.zero_add, this]
      simp [vals, List.getD, List.getElem?_map, List.getElem?_eq_getElem hi]) 9 Try.underlying9, strOf]
set_option maxHeartbeats 3200000 in
theorem put_any (b off len cap : Nat) (l : List Fld) (w : World) (hlen : l.length = len) (hl : len ≤ 1000) (hb : b < w.heap.size)
    (hc : ∀ k (f : Fld), l[k]? = some f → w.cell? ⟨b, off + 2 * k, none⟩ = some (.int .u64 f.n) ∧ w.cell? ⟨b, off + 2 * k + 1, none⟩ = some (.int .i64 f.v) ∧ f.n < 18446744073709551616) :
    Calls Try.prog 31 #[.slice (some ⟨b, off, none⟩) len cap] w fun e w' => e = .returned (.string (str (bytesOf l))) ∧ Below w.heap.size w w' := by
  obtain ⟨i0, hi, hz0, hz1, hz2⟩ := info_parts info5
  go_enter Try.func31, Try.ntmps31
  go_wp2_with fail
  go_loopw [3, 9] (fun v i wr => ∃ k : Nat, k ≤ len ∧ i = .int .i64 k ∧ wr.ownsRow w.heap.size 5 1 v (bytesOf (l.take k)).length (vals (bytesOf (l.take k))) ∧ Below w.heap.size w wr) (fun _ i _ => len - (intOf i).toNat)
  case atStart => exact ⟨0, Nat.zero_le _, rfl, World.ownsRow_nil _ _ _ _, Below.refl _ _⟩
  case round =>
    obtain ⟨k, hk, rfl, hown, bel⟩ := hrel
    by_cases hlt : k < len
    · obtain ⟨f, hf⟩ : ∃ f, l[k]? = some f := ⟨_, List.getElem?_eq_getElem (by omega)⟩
      obtain ⟨c0, c1, hn⟩ := hc k f hf
      have d0 : wr.cell? ⟨b, off + k * 2, none⟩ = some (.int .u64 f.n) := by rw [Nat.mul_comm]; exact (bel.cell (by exact hb)).trans c0
      have d1 : wr.cell? ⟨b, off + k * 2 + 1, none⟩ = some (.int .i64 f.v) := by rw [Nat.mul_comm]; exact (bel.cell (by exact hb)).trans c1
      have HC := Lib.hid hc
      have HO := Lib.hid (And.intro hown (And.intro bel hf))
      clear hc c0 c1 hown bel hf
      go_wp2_with (go_at_call 45; refine (fit_any _ _).mono ?_; rintro e w' ⟨rfl, rfl⟩)
      have hz := HO.out.2.1.size
      obtain ⟨wo, rfl⟩ : ∃ wo : World, wo = wr := ⟨_, rfl⟩
      have hw8 := wid_bd f.v
      go_loopw [3, 6, 18] (fun v m i wr => ∃ j : Nat, j ≤ wid f.v ∧ i = .int .i64 j ∧ m = .int .u64 (f.n / 256 ^ j : Nat) ∧ wr.ownsRow w.heap.size 5 1 v (bytesOf (l.take k) ++ byt j f.n).length (vals (bytesOf (l.take k) ++ byt j f.n)) ∧ Below w.heap.size w wr) (fun _ _ i _ => wid f.v - (intOf i).toNat)
      case atStart =>
        have h := HO.out
        refine ⟨0, Nat.zero_le _, rfl, by simp, ?_, h.2.1.alloc hz _⟩
        have := h.1.alloc (o := .cells #[.int .u64 f.n, .int .i64 f.v] 67)
        simpa [byt] using this
      case round =>
        obtain ⟨j, hj, rfl, rfl, hown, bel⟩ := hrel
        have hq : f.n / 256 ^ j < 18446744073709551616 := Nat.lt_of_le_of_lt (Nat.div_le_self _ _) hn
        have e1 := byt_snoc j f.n
        have e2 : f.n / 256 ^ (j + 1) = f.n / 256 ^ j / 256 := by rw [Nat.pow_succ, Nat.div_div_eq_div_mul]
        have hzz := bel.size
        have hb8 : (bytesOf (l.take k) ++ byt j f.n).length ≤ 8 * len + 8 := by
          have := bytesOf_len (l.take k)
          rw [List.length_append, byt_len]
          have : (l.take k).length ≤ len := by simp; omega
          omega
        generalize hm : f.n / 256 ^ j = m at hq e2
        have HE := Lib.hid (And.intro e1 (And.intro e2 hm))
        clear e1 e2 hm
        by_cases hjl : j < wid f.v
        · generalize hacc : bytesOf (l.take k) ++ byt j f.n = acc at *
          have HA := Lib.hid hacc
          clear hacc
          go_wp2_with (at_builtin; go_loud (refine wpList_append_own _ rfl _ _ 53 rfl w.heap.size 5 i0 (.int .u8 0) 1 1 Try.underlying53 hi hz0 hz1 hz2 rfl (by decide) _ _ _ rfl (hown.alloc _) ⟨wr.heap.size, 0, none⟩ 1 1 [.int .u8 ((m : Int) % 256)] rfl rfl ?c1 ?c2 ?c3 ?c4 ?c5 ?_))
          case c1 =>
            intro j u hj
            match j, hj with
            | 0, hj => simp at hj; subst hj; simp [Addr.add]
          case c2 => intro u hu; simp at hu; subst hu; rfl
          case c3 => unfold maxLen; omega
          case c4 => omega
          case c5 => simp; omega
          · intro v' w1 hown' hgrow _
            have R1 := own_more hown'
            have R2 : Below w.heap.size w w1 := (bel.alloc hzz _).grown hgrow (by simp; omega) (own_ge hown)
            have HR := Lib.hid (And.intro R1 R2)
            clear hown' hgrow hown bel R1 R2
            go_wp2
            go_roundw
            case rel =>
              have e := HE.out
              have ea := HA.out
              have r := HR.out
              refine ⟨j + 1, by omega, by go_num, val_eq (by rw [e.2.1]; omega), ?_, r.2⟩
              have : bytesOf (l.take k) ++ byt (j + 1) f.n = acc ++ [UInt8.ofNat (m % 256)] := by rw [e.1, e.2.2, ← List.append_assoc, ea]
              rw [this]
              exact r.1
            case measure => simp [intOf]; omega
        · have hj2 : j = wid f.v := by omega
          have HB := Lib.hid (And.intro hown (And.intro bel hj2))
          clear hown bel hj2 HE
          go_wp2
          go_roundw
          case rel =>
            have h := HB.out
            have ho := HO.out
            have et : l.take (k + 1) = l.take k ++ [f] := by
              rw [List.take_add_one, ho.2.2]; rfl
            refine ⟨k + 1, by omega, by go_num, ?_, h.2.1⟩
            rw [et, bytesOf_snoc, ← h.2.2]
            exact h.1
          case measure => simp [intOf]; omega
    · have hk2 : k = len := by omega
      have HB := Lib.hid (And.intro hown (And.intro bel hk2))
      clear hown bel hk2
      have r1 := conv_own HB.out.1
      go_wp2
      go_ret
      exact ⟨by rw [HB.out.2.2, ← hlen, List.take_length]; rfl, HB.out.2.1⟩
end Go.Proofs.Ytilfhkagfjdfkaa
