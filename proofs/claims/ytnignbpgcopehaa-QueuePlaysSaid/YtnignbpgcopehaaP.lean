/- What Load makes of what Dump tells, and the other way. -/
import Derived.Test.YtnignbpgcopehaaM
set_option linter.unusedVariables false
set_option linter.unusedSimpArgs false
namespace Go.Proofs.Ytnignbpgcopehaa
open Go.RowKit
def one (x : Sm) : List UInt8 := UInt8.ofNat x.1.size :: x.1.data.toList
def bodyL (l : List Sm) : List UInt8 := l.flatMap one
theorem str_app (a b : List UInt8) : str a ++ str b = str (a ++ b) := by
  apply ByteArray.ext
  simp [str, ByteArray.data_append]
theorem str_list (s : ByteArray) : str s.data.toList = s := by apply ByteArray.ext; simp [str]
theorem dumpM_eq (n : Nat) (l : List Sm) : dumpM n l = str (UInt8.ofNat n :: bodyL l) := by
  have h : ∀ (l : List Sm) (a : List UInt8), l.foldl addM (str a) = str (a ++ bodyL l) := by
    intro l
    induction l with
    | nil => intro a; simp [bodyL]
    | cons x l ih =>
      intro a
      rw [List.foldl_cons]
      have e : addM (str a) x = str (a ++ one x) := by
        unfold addM one
        rw [← str_app, show UInt8.ofNat x.1.size :: x.1.data.toList = [UInt8.ofNat x.1.size] ++ x.1.data.toList from rfl, ← str_app, str_list]
      rw [e, ih, List.append_assoc]
      rfl
  exact h l [UInt8.ofNat n]
variable {s : ByteArray}
theorem extract_list (s : ByteArray) (p n : Nat) : (s.extract p (p + n)).data.toList = (s.data.toList.drop p).take n := by
  rw [ByteArray.data_extract, Array.toList_extract, List.extract_eq_take_drop, Nat.add_sub_cancel_left]
theorem size_list (s : ByteArray) : s.size = s.data.toList.length := rfl
theorem textS_ok {p n : Nat} (h : p + n ≤ s.size) : bad s p n false = false ∧ textP s p n false = p + n ∧ (textS s p n false).data.toList = (s.data.toList.drop p).take n := by
  have hb : bad s p n false = false := by unfold bad; simp; omega
  refine ⟨hb, ?_, ?_⟩
  · unfold textP; rw [hb]; rfl
  · unfold textS; rw [hb]; exact extract_list s p n
theorem bad_no {p n : Nat} {t : Bool} (h : bad s p n t = false) : t = false ∧ p + n ≤ s.size := by
  unfold bad at h
  cases t <;> simp at h <;> exact ⟨rfl, h⟩
theorem numL_one (c : UInt8) : numL [c] = c.toNat := by simp [numL]
theorem tk_at {pre post : List UInt8} {c : UInt8} (h : s.data.toList = pre ++ c :: post) : tkN s pre.length false = c.toNat ∧ tkP s pre.length false = pre.length + 1 ∧ tkT s pre.length false = false := by
  have hz : pre.length + 1 ≤ s.size := by rw [size_list, h]; simp
  obtain ⟨h1, h2, h3⟩ := textS_ok hz
  refine ⟨?_, h2, h1⟩
  unfold tkN
  rw [h3, h, List.drop_left]
  exact numL_one c
theorem text_at {pre x post : List UInt8} (h : s.data.toList = pre ++ (x ++ post)) : textS s pre.length x.length false = str x ∧ textP s pre.length x.length false = pre.length + x.length ∧ bad s pre.length x.length false = false := by
  have hz : pre.length + x.length ≤ s.size := by rw [size_list, h]; simp
  obtain ⟨h1, h2, h3⟩ := textS_ok hz
  refine ⟨?_, h2, h1⟩
  rw [h, List.drop_left, List.take_left'] at h3
  · rw [← str_list (textS s pre.length x.length false), h3]
  · rfl
theorem toNat_small {n : Nat} (h : n < 256) : (UInt8.ofNat n).toNat = n := by
  rw [UInt8.toNat_ofNat']; omega
theorem ldF_go (m : Nat) : ∀ (Ns : List Sm) (pre post : List UInt8) (M0 : List Sm), (∀ x ∈ Ns, x.1.size ≤ m) → s.data.toList = pre ++ (bodyL Ns ++ post) → ldF s m Ns.length pre.length false M0 = some ((pre ++ bodyL Ns).length, false, M0 ++ Ns)
  | [], pre, post, M0, hm, h => by simp [ldF, bodyL]
  | x :: Ns, pre, post, M0, hm, h => by
    have hx := x.2
    have e1 : s.data.toList = pre ++ UInt8.ofNat x.1.size :: (x.1.data.toList ++ (bodyL Ns ++ post)) := by rw [h]; simp [bodyL, one]
    obtain ⟨a1, a2, a3⟩ := tk_at e1
    rw [toNat_small (by omega)] at a1
    have e2 : s.data.toList = (pre ++ [UInt8.ofNat x.1.size]) ++ (x.1.data.toList ++ (bodyL Ns ++ post)) := by rw [e1]; simp
    obtain ⟨b1, b2, b3⟩ := text_at e2
    have e3 : s.data.toList = (pre ++ one x) ++ (bodyL Ns ++ post) := by rw [e1]; simp [one]
    have ih := ldF_go m Ns (pre ++ one x) post (M0 ++ [x]) (fun y hy => hm y (List.mem_cons_of_mem _ hy)) e3
    have hl : (pre ++ [UInt8.ofNat x.1.size]).length = pre.length + 1 := by simp
    have hs : x.1.data.toList.length = x.1.size := rfl
    rw [hl, hs] at b1 b2 b3
    show (if m < tkN s pre.length false then none else ldF s m Ns.length _ _ _) = _
    rw [a1, if_neg (by have := hm x List.mem_cons_self; omega), a2, a3, b1, b2, b3, str_list]
    have e4 : pre.length + 1 + x.1.size = (pre ++ one x).length := by
      rw [List.length_append, show (one x).length = x.1.size + 1 from rfl]; omega
    have e5 : mkS x.1 = x := Subtype.ext (mkS_val x.2)
    rw [e4, e5, ih]
    simp [bodyL]
theorem load_dump {d m : Nat} {Ms : List Sm} (hm : ∀ x ∈ Ms, x.1.size ≤ m) (hd : Ms.length ≤ d) (h16 : d ≤ 16) : ldAll (dumpM Ms.length Ms) d m = some ((dumpM Ms.length Ms).size, false, Ms) := by
  have e0 : (dumpM Ms.length Ms).data.toList = [] ++ UInt8.ofNat Ms.length :: bodyL Ms := by rw [dumpM_eq]; rfl
  obtain ⟨a1, a2, a3⟩ := tk_at e0
  rw [toNat_small (by omega)] at a1
  have e1 : (dumpM Ms.length Ms).data.toList = [UInt8.ofNat Ms.length] ++ (bodyL Ms ++ []) := by rw [e0]; simp
  have h := ldF_go m Ms _ _ [] hm e1
  unfold ldAll
  simp only [List.length_nil] at a1 a2 a3
  rw [a1, if_neg (by omega), a2, a3]
  have e2 : ([UInt8.ofNat Ms.length] : List UInt8).length = 0 + 1 := rfl
  rw [e2] at h
  rw [h, size_list, e1]
  simp
theorem ldF_torn (m : Nat) : ∀ (k p : Nat) (M0 : List Sm) (p' : Nat) (t' : Bool) (Ms : List Sm), ldF s m k p true M0 = some (p', t', Ms) → t' = true
  | 0, p, M0, p', t', Ms, h => by simp only [ldF, Option.some.injEq, Prod.mk.injEq] at h; exact h.2.1.symm
  | k + 1, p, M0, p', t', Ms, h => by
    unfold ldF at h
    split at h
    · simp at h
    · have e : bad s (tkP s p true) (tkN s p true) (tkT s p true) = true := by unfold tkT bad; simp
      rw [e] at h
      exact ldF_torn m k _ _ p' t' Ms h
theorem take_one {p : Nat} (h : tkT s p false = false) : ∃ c, s.data.toList.drop p = c :: s.data.toList.drop (p + 1) ∧ tkN s p false = c.toNat ∧ tkP s p false = p + 1 ∧ p + 1 ≤ s.size := by
  obtain ⟨_, hz⟩ := bad_no h
  obtain ⟨h1, h2, h3⟩ := textS_ok hz
  have hl : p < s.data.toList.length := by rw [← size_list]; omega
  refine ⟨s.data.toList[p], List.drop_eq_getElem_cons hl, ?_, h2, hz⟩
  unfold tkN
  rw [h3, List.drop_eq_getElem_cons hl]
  exact numL_one _
theorem ldF_back (m : Nat) (hm : m ≤ 64) : ∀ (k p : Nat) (M0 : List Sm) (p' : Nat) (Ms : List Sm), ldF s m k p false M0 = some (p', false, Ms) → p ≤ s.size → ∃ Ns, Ms = M0 ++ Ns ∧ Ns.length = k ∧ s.data.toList.drop p = bodyL Ns ++ s.data.toList.drop p' ∧ p' ≤ s.size
  | 0, p, M0, p', Ms, h, hp => by
    simp only [ldF, Option.some.injEq, Prod.mk.injEq] at h
    obtain ⟨rfl, _, rfl⟩ := h
    exact ⟨[], by simp, rfl, by simp [bodyL], hp⟩
  | k + 1, p, M0, p', Ms, h, hp => by
    unfold ldF at h
    split at h
    · simp at h
    · rename_i hmm
      cases hb : bad s (tkP s p false) (tkN s p false) (tkT s p false)
      · obtain ⟨ht, hz⟩ := bad_no hb
        rw [hb] at h
        obtain ⟨c, c1, c2, c3, c4⟩ := take_one ht
        rw [ht, c3] at h
        rw [c3] at hz
        obtain ⟨_, h2, h3⟩ := textS_ok hz
        rw [h2] at h
        obtain ⟨Ns, n1, n2, n3, n4⟩ := ldF_back m hm k _ _ p' Ms h hz
        have hsz : (textS s (p + 1) (tkN s p false) false).size = tkN s p false := by
          rw [size_list, h3, List.length_take, List.length_drop, ← size_list]; omega
        have hv := mkS_val (t := textS s (p + 1) (tkN s p false) false) (by omega)
        refine ⟨mkS (textS s (p + 1) (tkN s p false) false) :: Ns, by rw [n1]; simp, by simp [n2], ?_, n4⟩
        have e : bodyL (mkS (textS s (p + 1) (tkN s p false) false) :: Ns) = c :: ((s.data.toList.drop (p + 1)).take (tkN s p false) ++ bodyL Ns) := by
          show one _ ++ bodyL Ns = _
          unfold one
          rw [hv, hsz, h3, c2]
          simp
        rw [e, c1, List.cons_append, List.append_assoc, ← n3, ← List.drop_drop (i := tkN s p false), List.take_append_drop]
      · rw [hb] at h
        have := ldF_torn m _ _ _ _ _ _ h
        simp at this
theorem dump_load {d m p : Nat} {Ms : List Sm} (hm : m ≤ 64) (h : ldAll s d m = some (p, false, Ms)) (hp : s.size ≤ p) : dumpM Ms.length Ms = s := by
  unfold ldAll at h
  split at h
  · simp at h
  · cases ht : tkT s 0 false
    · rw [ht] at h
      obtain ⟨c, c1, c2, c3, c4⟩ := take_one ht
      rw [c3] at h
      obtain ⟨Ns, n1, n2, n3, n4⟩ := ldF_back m hm _ _ _ _ _ h c4
      have hp' : p = s.size := by omega
      subst n1
      rw [dumpM_eq, n2, c2]
      have e : s.data.toList = c :: bodyL Ms := by
        have := c1
        rw [List.drop_zero, n3, hp', size_list, List.drop_length, List.append_nil] at this
        exact this
      rw [show UInt8.ofNat c.toNat = c by simp, ← e, str_list]
    · rw [ht] at h
      have := ldF_torn m _ _ _ _ _ _ h
      simp at this
end Go.Proofs.Ytnignbpgcopehaa
