/- Calls that AluDoes makes: what the document's functions answer, as terms; what is kept. -/
import Derived.Test.YtgfhjldfhcoagaaUd
import Derived.Test.YtgfhjldfhcoagaaQC
set_option linter.unusedVariables false
set_option linter.unusedSimpArgs false
namespace Go.Proofs.Ytgfhjldfhcoagaa.Sx
open Go Go.RowKit
noncomputable section
set_option maxRecDepth 100000

/-- The high half of a product, by halves. -/
def hiT (x y : N) : N :=
  let x0 := mkAr .and .u64 x (.lit 4294967295); let x1 := mkAr .shr .u64 x (.lit 32); let y0 := mkAr .and .u64 y (.lit 4294967295); let y1 := mkAr .shr .u64 y (.lit 32)
  let w0 := mkAr .mul .u64 x0 y0
  let t := mkAr .add .u64 (mkAr .mul .u64 x1 y0) (mkAr .shr .u64 w0 (.lit 32))
  let w1 := mkAr .add .u64 (mkAr .and .u64 t (.lit 4294967295)) (mkAr .mul .u64 x0 y1)
  mkAr .add .u64 (mkAr .add .u64 (mkAr .mul .u64 x1 y1) (mkAr .shr .u64 t (.lit 32))) (mkAr .shr .u64 w1 (.lit 32))
def byZero (st : St) (y : N) (yes no : V) : List (V × St) := match dec st.pc (mkEq y (.lit 0)) with
    | some true => [(yes, st)]
    | some false => [(no, st)]
    | none => [(yes, forkPc st (mkEq y (.lit 0)) true), (no, forkPc st (mkEq y (.lit 0)) false)]
def below64 (st : St) (y : N) : Bool := match dec st.pc (mkLt y (.lit 64)) with | some true => true | _ => false
def ad1 (f : Nat) (x : N) (st : St) : Option (List (V × St)) := match Nat.beq f 50 with
  | true => some [(.n .u64 (mkConv .u64 (mkConv .i64 (mkConv .i32 x))), st)]
  | false => none
def ad2 (f : Nat) (x y : N) (st : St) : Option (List (V × St)) := match Nat.beq f 49 with
  | true => match below64 st y with
    | true => some [(.n .u64 (mkConv .u64 (mkAr .shr .i64 (mkConv .i64 x) y)), st)]
    | false => none
  | false => match Nat.beq f 52 with
    | true => some [(.agg [.n .u64 (hiT x y), .n .u64 (mkAr .mul .u64 x y)], st)]
    | false => match Nat.beq f 54 with
      | true => some (byZero st y (.tup [.n .u64 (.lit 18446744073709551615), .n .u64 x])
          (.tup [.n .u64 (mkConv .u64 (mkAr .quo .i64 (mkConv .i64 x) (mkConv .i64 y))), .n .u64 (mkConv .u64 (mkAr .rem .i64 (mkConv .i64 x) (mkConv .i64 y)))]))
      | false => match Nat.beq f 55 with
        | true => some (byZero st y (.tup [.n .u64 (.lit 18446744073709551615), .n .u64 x]) (.tup [.n .u64 (mkAr .quo .u64 x y), .n .u64 (mkAr .rem .u64 x y)]))
        | false => none
def adEv : Ev := fun _ f args st => match args with
  | [.n .u64 x] => match nonneg64 x with | true => ad1 f x st | false => none
  | [.n .u64 x, .n .u64 y] => match nonneg64 x && nonneg64 y with | true => ad2 f x y st | false => none
  | _ => none

/-! The terms say what is answered -/
theorem nonneg64_den {a : N} (h : nonneg64 a = true) (i : Nat → Int) : ∃ n : Nat, a.den i = (n : Int) ∧ n < 18446744073709551616 := by
  unfold nonneg64 at h
  split at h
  · rename_i lo hi hb
    rw [Bool.and_eq_true, ile_iff, ile_iff] at h
    have := N.bnd_ok i a lo hi hb
    exact ⟨(a.den i).toNat, by omega, by omega⟩
  · cases h
theorem wrap_u64 (x : Int) : wrapF .u64 x = x % 18446744073709551616 := by
  have := lowOf_eq .u64 x
  simp only [span] at this
  simpa [wrapF, ofLow, isSigned] using this
theorem add_u64 (x y : Nat) : arF .add .u64 x y = ((x + y) % 18446744073709551616 : Nat) := by
  have := wrap_u64 ((x : Int) + y); simp only [arF]; omega
theorem mul_u64 (x y : Nat) : arF .mul .u64 x y = ((x * y) % 18446744073709551616 : Nat) := by
  have := wrap_u64 ((x : Int) * y); simp only [arF]; rw [this]; simp
theorem shr_u64 (x : Nat) : arF .shr .u64 x 32 = (x / 4294967296 : Nat) := by
  simp only [arF]
  rw [show (Int.ofNat (2 ^ (min (32 : Int).toNat (kindBits .u64)))) = 4294967296 from rfl, Int.fdiv_eq_ediv_of_nonneg _ (by decide)]
  omega
theorem and_u64 (x : Nat) : arF .and .u64 x 4294967295 = (x % 4294967296 : Nat) := by
  simp only [arF, ofLow, isSigned]
  have : Nat.land (lowOf .u64 x) (lowOf .u64 4294967295) = x % 18446744073709551616 % 4294967296 := Nat.and_two_pow_sub_one_eq_mod (x % 18446744073709551616) 32
  rw [this]
  have h : x % 18446744073709551616 % 4294967296 = x % 4294967296 := by omega
  rw [h]; rfl
theorem i64_sg (a : Nat) (ha : a < 18446744073709551616) : wrapF .i64 (a : Int) = sg a := by
  rw [wrapF_eq]; simp only [IntKind.wrap, IntKind.signed, IntKind.bits, sg, Bool.true_and, decide_eq_true_eq, show (2 : Int) ^ 64 = 18446744073709551616 from rfl, show (2 : Int) ^ (64 - 1) = 9223372036854775808 from rfl, show (2 : Int) ^ 32 = 4294967296 from rfl, show (2 : Int) ^ (32 - 1) = 2147483648 from rfl]
  split <;> split <;> omega
theorem i32_sw (a : Nat) : wrapF .i32 (a : Int) = sw a := by
  rw [wrapF_eq]; simp only [IntKind.wrap, IntKind.signed, IntKind.bits, sw, Bool.true_and, decide_eq_true_eq, show (2 : Int) ^ 64 = 18446744073709551616 from rfl, show (2 : Int) ^ (64 - 1) = 9223372036854775808 from rfl, show (2 : Int) ^ 32 = 4294967296 from rfl, show (2 : Int) ^ (32 - 1) = 2147483648 from rfl]
  split <;> split <;> omega
theorem sw_bd (a : Nat) : -2147483648 ≤ sw a ∧ sw a ≤ 2147483647 := by unfold sw; split <;> omega
theorem i64_of {z : Int} (h : -9223372036854775808 ≤ z ∧ z ≤ 9223372036854775807) : wrapF .i64 z = z := by
  rw [wrapF_eq]; simp only [IntKind.wrap, IntKind.signed, IntKind.bits, Bool.true_and, decide_eq_true_eq, show (2 : Int) ^ 64 = 18446744073709551616 from rfl, show (2 : Int) ^ (64 - 1) = 9223372036854775808 from rfl, show (2 : Int) ^ 32 = 4294967296 from rfl, show (2 : Int) ^ (32 - 1) = 2147483648 from rfl]
  split <;> omega
theorem halves (m n : Nat) (hm : m < 18446744073709551616) (hn : n < 18446744073709551616) :
    ∃ p q r s : Nat, m / 4294967296 * (n / 4294967296) = p ∧ m / 4294967296 * (n % 4294967296) = q ∧ m % 4294967296 * (n / 4294967296) = r ∧ m % 4294967296 * (n % 4294967296) = s ∧
      p ≤ 18446744065119617025 ∧ q ≤ 18446744065119617025 ∧ r ≤ 18446744065119617025 ∧ s ≤ 18446744065119617025 ∧ m * n = p * 18446744073709551616 + (q + r) * 4294967296 + s := by
  have h1 : m / 4294967296 ≤ 4294967295 := by omega
  have h2 : m % 4294967296 ≤ 4294967295 := by omega
  have h3 : n / 4294967296 ≤ 4294967295 := by omega
  have h4 : n % 4294967296 ≤ 4294967295 := by omega
  refine ⟨_, _, _, _, rfl, rfl, rfl, rfl, Nat.mul_le_mul h1 h3, Nat.mul_le_mul h1 h4, Nat.mul_le_mul h2 h3, Nat.mul_le_mul h2 h4, ?_⟩
  have em : m = m / 4294967296 * 4294967296 + m % 4294967296 := by omega
  have en : n = n / 4294967296 * 4294967296 + n % 4294967296 := by omega
  generalize m / 4294967296 = a at *
  generalize m % 4294967296 = b at *
  generalize n / 4294967296 = c at *
  generalize n % 4294967296 = d at *
  subst em en
  have e1 : a * 4294967296 * (c * 4294967296) = a * c * 18446744073709551616 := by
    rw [Nat.mul_mul_mul_comm]
  have e2 : a * 4294967296 * d = a * d * 4294967296 := by rw [Nat.mul_right_comm]
  have e3 : b * (c * 4294967296) = b * c * 4294967296 := by rw [Nat.mul_assoc]
  rw [Nat.add_mul, Nat.mul_add, Nat.mul_add, e1, e2, e3]
  omega
theorem hiT_den {x y : N} {i : Nat → Int} {a b : Nat} (ha : a < 18446744073709551616) (hb : b < 18446744073709551616) (hx : x.den i = a) (hy : y.den i = b) : (hiT x y).den i = ((a * b / 18446744073709551616 : Nat) : Int) := by
  unfold hiT
  simp only [mkAr_den, hx, hy, N.den, and_u64, shr_u64, mul_u64, add_u64]
  obtain ⟨p, q, r, s, h1, h2, h3, h4, b1, b2, b3, b4, e⟩ := halves a b ha hb
  rw [h1, h2, h3, h4, e]
  have w0 : s % 18446744073709551616 = s := by omega
  rw [w0]
  congr 1
  omega

section
variable {e : Env} {S : Nat → Prop} {w0 w : World} {st : St}
theorem one_way {P : Program} {f : FuncId} {args : Array Value} {v : V} {w : World} {R : Ending → World → Prop} (r : Rep e S w0 st.hp w) (hh : Holds e.int st.pc) (hv : V.ok st.hp v)
    (hR : ∀ u st', (u, st') ∈ [(v, st)] → ∀ e' w', After e S w0 st e' st' w' → V.ok st'.hp u → R (.returned (u.den e')) w')
    (hc : Calls P f args w fun x w' => x = .returned (v.den e) ∧ Below w.heap.size w w') : CallsIn (FW none) 0 P f args w R :=
  (callsIn_wide (n := 0)).2 (hc.mono fun x w' ⟨hx, hb⟩ => by
    subst hx
    exact hR _ _ (List.mem_singleton.2 rfl) e w' ⟨.refl _ _, r.past hb, hh⟩ hv)
theorem byZero_way {P : Program} {f : FuncId} {args : Array Value} {y : N} {yes no : V} {w : World} {R : Ending → World → Prop} (r : Rep e S w0 st.hp w) (hh : Holds e.int st.pc) (h1 : ∀ h, V.ok h yes) (h2 : ∀ h, V.ok h no)
    (hR : ∀ u st', (u, st') ∈ byZero st y yes no → ∀ e' w', After e S w0 st e' st' w' → V.ok st'.hp u → R (.returned (u.den e')) w')
    (hy : y.den e.int = 0 → Calls P f args w fun x w' => x = .returned (yes.den e) ∧ Below w.heap.size w w')
    (hn : y.den e.int ≠ 0 → Calls P f args w fun x w' => x = .returned (no.den e) ∧ Below w.heap.size w w') : CallsIn (FW none) 0 P f args w R := by
  have hq : (mkEq y (.lit 0)).den e.int ≠ 0 ↔ y.den e.int = 0 := by
    rw [mkEq_den, bI_ne, ieq_iff]; rfl
  unfold byZero at hR
  by_cases h0 : y.den e.int = 0
  · refine (callsIn_wide (n := 0)).2 ((hy h0).mono fun x w' ⟨hx, hb⟩ => ?_)
    subst hx
    split at hR
    · exact hR _ _ (List.mem_singleton.2 rfl) e w' ⟨.refl _ _, r.past hb, hh⟩ (h1 _)
    · rename_i hd
      have := (dec_ok hh hd).2 (hq.2 h0)
      cases this
    · exact hR _ (forkPc st (mkEq y (.lit 0)) true) (List.mem_cons_self ..) e w' ⟨.refl _ _, r.past hb, Holds.add hh (by simp [hq, h0])⟩ (h1 _)
  · refine (callsIn_wide (n := 0)).2 ((hn h0).mono fun x w' ⟨hx, hb⟩ => ?_)
    subst hx
    split at hR
    · rename_i hd
      exact absurd (hq.1 ((dec_ok hh hd).1 rfl)) h0
    · exact hR _ _ (List.mem_singleton.2 rfl) e w' ⟨.refl _ _, r.past hb, hh⟩ (h2 _)
    · exact hR _ (forkPc st (mkEq y (.lit 0)) false) (List.mem_cons_of_mem _ (List.mem_singleton.2 rfl)) e w' ⟨.refl _ _, r.past hb, Holds.add hh (by simp [hq, h0])⟩ (h2 _)
end
theorem same_below {P : Program} {f : FuncId} {args : Array Value} {w : World} {u v : Value} (h : Calls P f args w fun x w' => x = .returned u ∧ w = w') (hv : u = v) : Calls P f args w fun x w' => x = .returned v ∧ Below w.heap.size w w' :=
  h.mono fun x w' ⟨h1, h2⟩ => ⟨by rw [h1, hv], h2 ▸ Below.refl _ _⟩
theorem adEv_ok : Snd Try.prog noGlob adEv := by
  intro rs f args st ways h e S w0 w _ r _ hh hargs R hR
  clear hargs
  unfold adEv at h
  split at h
  · rename_i x
    split at h
    · rename_i hx
      obtain ⟨a, ea, ha⟩ := nonneg64_den hx e.int
      unfold ad1 at h
      split at h
      · rename_i hf
        cases Nat.eq_of_beq_eq_true hf
        cases h
        refine one_way r hh (by first | trivial | exact ⟨trivial, trivial, trivial⟩) hR ?_
        have e0 : (V.denL e [.n .u64 x]).toArray = #[.int .u64 a] := by simp only [V.denL, V.den, ea]
        rw [e0]
        refine same_below (word_any a ha w) ?_
        simp only [V.den, mkConv_den, ea, i32_sw, i64_of (show -9223372036854775808 ≤ sw a ∧ sw a ≤ 9223372036854775807 by have := sw_bd a; omega), wrap_u64]
        rfl
      · cases h
    · cases h
  · rename_i x y
    split at h
    · rename_i hxy
      rw [Bool.and_eq_true] at hxy
      obtain ⟨a, ea, ha⟩ := nonneg64_den hxy.1 e.int
      obtain ⟨b, eb, hb⟩ := nonneg64_den hxy.2 e.int
      have e0 : (V.denL e [.n .u64 x, .n .u64 y]).toArray = #[.int .u64 a, .int .u64 b] := by simp only [V.denL, V.den, ea, eb]
      unfold ad2 at h
      split at h
      · rename_i hf
        cases Nat.eq_of_beq_eq_true hf
        split at h
        · rename_i hl
          cases h
          refine one_way r hh (by first | trivial | exact ⟨trivial, trivial, trivial⟩) hR ?_
          have hb64 : b < 64 := by
            unfold below64 at hl
            split at hl
            · rename_i hd
              have := (dec_ok hh hd).1 rfl
              rw [mkLt_den, bI_ne, ilt_iff, eb] at this
              simp only [N.den] at this
              omega
            · cases hl
          rw [e0]
          refine same_below (right_any a b ha hb64 w) ?_
          simp only [V.den, mkConv_den, mkAr_den, ea, eb, i64_sg a ha, wrap_u64, arF]
          unfold right
          congr 2
          simp only [kindBits]
          rw [show min (b : Int).toNat 64 = b by omega, Int.fdiv_eq_ediv_of_nonneg _ (by exact Int.natCast_nonneg _)]
          rfl
        · cases h
      · split at h
        · rename_i hf
          cases Nat.eq_of_beq_eq_true hf
          cases h
          refine one_way r hh (by first | trivial | exact ⟨trivial, trivial, trivial⟩) hR ?_
          rw [e0]
          refine (prod_any a b ha hb w).mono fun x' w' ⟨h1, h2⟩ => ⟨?_, h2⟩
          rw [h1]
          simp only [V.den, V.denL, hiT_den ha hb ea eb, mkAr_den, ea, eb, mul_u64]
        · split at h
          · rename_i hf
            cases Nat.eq_of_beq_eq_true hf
            cases h
            rw [e0]
            refine byZero_way r hh ?oa ?ob hR (fun h0 => ?_) (fun h0 => ?_)
            case oa => exact fun _ => ⟨trivial, trivial, trivial⟩
            case ob => exact fun _ => ⟨trivial, trivial, trivial⟩
            · have : b = 0 := by rw [eb] at h0; omega
              subst this
              refine same_below (signed_none a w) ?_
              simp only [V.den, V.denL, ea, N.den]
            · refine same_below (signed_any a b ha hb (by rw [eb] at h0; omega) w) ?_
              simp only [V.den, V.denL, mkConv_den, mkAr_den, ea, eb, i64_sg a ha, i64_sg b hb, arF, wrap_u64]
              rw [show wrapF .i64 ((sg a).tdiv (sg b)) % 18446744073709551616 = (sg a).tdiv (sg b) % 18446744073709551616 from wrapF_mod .i64 _]
          · split at h
            · rename_i hf
              cases Nat.eq_of_beq_eq_true hf
              cases h
              rw [e0]
              refine byZero_way r hh ?oa ?ob hR (fun h0 => ?_) (fun h0 => ?_)
              case oa => exact fun _ => ⟨trivial, trivial, trivial⟩
              case ob => exact fun _ => ⟨trivial, trivial, trivial⟩
              · have : b = 0 := by rw [eb] at h0; omega
                subst this
                refine same_below (quo_none a w) ?_
                simp only [V.den, V.denL, ea, N.den]
              · refine same_below (quo_any a b ha hb (by rw [eb] at h0; omega) w) ?_
                simp only [V.den, V.denL, mkAr_den, ea, eb, arF, wrap_u64]
                have e1 : (a : Int).tdiv (b : Int) % 18446744073709551616 = ((a / b : Nat) : Int) := by
                  have : (a : Int).tdiv (b : Int) = ((a / b : Nat) : Int) := rfl
                  rw [this]
                  have := Nat.div_le_self a b
                  generalize a / b = q at *
                  omega
                rw [e1]
                rfl
            · cases h
    · cases h
  · cases h

theorem orEv_ok {P : Program} {glob : Nat → Option Nat} {a b : Ev} (ha : Snd P glob a) (hb : Snd P glob b) : Snd P glob (orEv a b) := by
  intro rs f args st ways h
  simp only [orEv] at h
  split at h
  · rename_i l hl
    cases h
    exact ha rs f args st ways hl
  · exact hb rs f args st ways h
def kept1 : List Kept := [{ fn := 9, args := [], val := .b (.lit 1) }]
theorem kept1_ok : keptOk Try.prog noGlob noBase 80 14 kept1 = true := by kernel_rfl
theorem kept1_is : ∀ k ∈ kept1, k.is Try.prog := kept_is (noBase_ok _ _) (by kernel_rfl) kept1_ok
def base : Ev := orEv (keptEv kept1) adEv
theorem base_ok : Snd Try.prog noGlob base := orEv_ok (keptEv_ok kept1_is) adEv_ok
end
end Go.Proofs.Ytgfhjldfhcoagaa.Sx
