/- CodecBack: what was put is taken as it was: the numbers; the law's two sources. -/
import Derived.Test.YtddacegeepgmmaaK
import Derived.Test.YtddacegeepgmmaaF
set_option linter.unusedVariables false
set_option linter.unusedSimpArgs false
namespace Go.Proofs.Ytddacegeepgmmaa
open Go.RowKit

/-- What is left of a number that was put. -/
def lowN (n : Nat) (v : Int) : Nat := n % 256 ^ wid v
theorem low_any (n : Nat) (v : Int) (hn : n < 18446744073709551616) (w : World) : Calls Try.prog 23 #[.int .u64 n, .int .i64 v] w fun e w' => e = .returned (.int .u64 (lowN n v)) ∧ w' = w := by
  by_cases h1 : v < 1
  · have e : lowN n v = n % 256 := by unfold lowN wid; rw [if_pos h1]
    rw [e]
    go_enter Try.func23, Try.ntmps23
    go_wp2
    go_ret
    exact ⟨ret_eq (by omega), rfl⟩
  · by_cases h8 : 8 ≤ v
    · have e : lowN n v = n := by
        have : wid v = 8 := by unfold wid; (repeat' split) <;> omega
        unfold lowN; rw [this]; exact Nat.mod_eq_of_lt hn
      rw [e]
      go_enter Try.func23, Try.ntmps23
      go_wp2
      all_goals (go_ret; exact ⟨rfl, rfl⟩)
    · obtain h | h | h | h | h | h | h : v = 1 ∨ v = 2 ∨ v = 3 ∨ v = 4 ∨ v = 5 ∨ v = 6 ∨ v = 7 := by omega
      all_goals
        subst h
        go_enter Try.func23, Try.ntmps23
        go_wp2
        go_ret
        exact ⟨ret_eq (by show _ = ((n % _ : Nat) : Int); simp [wid]), rfl⟩
/-- Where the so manyeth field begins. -/
def place (l : List Fld) (i : Nat) : Nat := (bytesOf (l.take i)).length
theorem place_succ {l : List Fld} {i : Nat} {f : Fld} (h : l[i]? = some f) : place l (i + 1) = place l i + wid f.v := by
  unfold place
  have et : l.take (i + 1) = l.take i ++ [f] := by rw [List.take_add_one, h]; rfl
  rw [et, bytesOf_snoc, List.length_append, byt_len]
theorem bytesOf_app (a b : List Fld) : bytesOf (a ++ b) = bytesOf a ++ bytesOf b := by simp [bytesOf]
theorem place_all (l : List Fld) : place l l.length = (bytesOf l).length := by unfold place; rw [List.take_of_length_le (Nat.le_refl _)]
theorem bytes_split {l : List Fld} {i : Nat} {f : Fld} (h : l[i]? = some f) : bytesOf l = bytesOf (l.take i) ++ (byt (wid f.v) f.n ++ bytesOf (l.drop (i + 1))) := by
  obtain ⟨hi, rfl⟩ := List.getElem?_eq_some_iff.1 h
  have e := List.take_append_drop i l
  rw [List.drop_eq_getElem_cons hi] at e
  conv => lhs; rw [← e]
  rw [bytesOf_app]
  congr 1
theorem place_le {l : List Fld} {i : Nat} {f : Fld} (h : l[i]? = some f) : place l i + wid f.v ≤ (bytesOf l).length := by
  rw [bytes_split h]
  simp only [List.length_append, byt_len]
  unfold place
  first | done | omega
theorem piece_at {l : List Fld} {i : Nat} {f : Fld} (h : l[i]? = some f) (k : Nat) (hk : place l i + wid f.v ≤ k) : ((bytesOf l).take k).extract (place l i) (place l i + wid f.v) = byt (wid f.v) f.n := by
  have e := bytes_split h
  have hl : (bytesOf (l.take i)).length = place l i := rfl
  have hb := byt_len (wid f.v) f.n
  rw [List.extract_eq_take_drop, List.drop_take, List.take_take]
  have e2 : (bytesOf l).drop (place l i) = byt (wid f.v) f.n ++ bytesOf (l.drop (i + 1)) := by
    rw [e, ← hl, List.drop_left]
  rw [e2, show min (place l i + wid f.v - place l i) (k - place l i) = wid f.v by omega]
  exact List.take_left' hb
theorem str_extract (L : List UInt8) (a b : Nat) : ((str L).extract a b).data.toList = L.extract a b := by
  simp [str, ByteArray.data_extract]
section
variable {w : World} {X S0 : Nat} {p : Nat}
/-- A whole field is taken as it was put. -/
theorem take_whole {l : List Fld} {i : Nat} {f : Fld} (hf : l[i]? = some f) (k : Nat) {s : ByteArray} (es : s = str ((bytesOf l).take k)) (hp : p = place l i) (h : Src w X S0 s p false) (hs : s.size ≤ 4611686018427387904) (d : Nat) (hd : wid f.v = d) (hk : p + d ≤ s.size) :
    Calls Try.prog 15 #[.pointer (some ⟨X, 0, none⟩), .int .i64 f.v] w fun e w' => e = .returned (.int .u64 (lowN f.n f.v)) ∧ Src w' X S0 s (p + d) false ∧ Only X w w' := by
  subst hd hp
  refine (take_any h hs f.v).mono ?_
  rintro e w' ⟨rfl, hsrc, ho⟩
  have eb : bad s (place l i) (wid f.v) false = false := by simp [bad]; omega
  have hk2 : place l i + wid f.v ≤ k := by
    have : s.size = ((bytesOf l).take k).length := by rw [es]; rfl
    rw [List.length_take] at this
    omega
  rw [textP, eb] at hsrc
  refine ⟨?_, hsrc, ho⟩
  rw [textS, eb]
  show Ending.returned (.int .u64 (numL (s.extract (place l i) (place l i + wid f.v)).data.toList : Nat)) = _
  rw [es, str_extract, piece_at hf k hk2, numL_byt]
  rfl
/-- One that is not whole is torn. -/
theorem take_torn {s : ByteArray} {t : Bool} (h : Src w X S0 s p t) (hs : s.size ≤ 4611686018427387904) (v : Int) (hk : t = true ∨ s.size < p + wid v) :
    Calls Try.prog 15 #[.pointer (some ⟨X, 0, none⟩), .int .i64 v] w fun e w' => e = .returned (.int .u64 0) ∧ Src w' X S0 s p true ∧ Only X w w' := by
  refine (take_any h hs v).mono ?_
  rintro e w' ⟨rfl, hsrc, ho⟩
  have eb : bad s p (wid v) t = true := by rcases hk with rfl | hk <;> simp [bad]; omega
  rw [textP, eb] at hsrc
  refine ⟨?_, hsrc, ho⟩
  rw [textS, eb]
  rfl
end
end Go.Proofs.Ytddacegeepgmmaa
