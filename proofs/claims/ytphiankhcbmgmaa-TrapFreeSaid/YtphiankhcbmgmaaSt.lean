/- Regions, code, calls: what the reader says is so. -/
import Derived.Test.YtphiankhcbmgmaaSz
namespace Go.Proofs.Ytphiankhcbmgmaa.Sx
open Go

section
variable {P : Program} {glob : Nat → Option Nat} {E : Ev} {ops : Array Oper} {Q : Exit → Act → World → Prop} {lf : Nat}
variable {e0 e : Env} {S : Nat → Prop} {w0 w : World} {st0 st : St} {fr : Fr} {a : Act}

/-- Every end of a region is good. -/
def EndsGood (Q : Exit → Act → World → Prop) (e0 : Env) (S : Nat → Prop) (w0 : World) (st0 : St) (ends : List Qp) : Prop :=
  ∀ p ∈ ends, ∀ e w a', Later e0 e st0.hp p.st.hp → Rep e S w0 p.st.hp w → Holds e.int p.st.pc → Fm e p.st.hp p.fr a' → Q .normal a' w

theorem actAll_ok {p : Qp} : ∀ {l : List Nat} {b b' : Bk} {qs : List Qp}, actAll P glob E lf ops p l b = some (qs, b') → ∀ i ∈ l, ∃ o n xs ps, ops[i]? = some o ∧ oneOp P glob E lf ops o p.fr { p.st with nxt := n } = some xs ∧ behind P glob ops p i xs = some ps ∧ ∀ q ∈ ps, q ∈ qs
  | [], _, _, _, _, i, hi => by cases hi
  | j :: l, b, b', qs, h, i, hi => by
    simp only [actAll] at h
    split at h
    · cases h
    · rename_i o ho
      split at h
      · cases h
      · rename_i xs hxs
        split at h
        · cases h
        · rename_i ps hps
          split at h
          · cases h
          · rename_i qs2 b2 hqs
            cases h
            rcases List.mem_cons.1 hi with rfl | hi
            · exact ⟨o, _, xs, ps, ho, hxs, hps, fun q hq => List.mem_append_left _ hq⟩
            · obtain ⟨o', n', xs', ps', h1, h2, h3, h4⟩ := actAll_ok hqs i hi
              exact ⟨o', n', xs', ps', h1, h2, h3, fun q hq => List.mem_append_right _ (h4 q hq)⟩

theorem stepPl_ok (hE : Snd P glob E) (hb : edgesBack ops = true) (hsel : noSelect ops) (q : Qp) (b : Bk) (qs ends : List Qp) (b' : Bk) (h : stepPl P glob E lf ops q b = some (qs, ends, b'))
    (hqs : ∀ p ∈ qs, Goal P glob ops Q e0 S w0 st0 (p.pl ops.size)) (hends : EndsGood Q e0 S w0 st0 ends) : Goal P glob ops Q e0 S w0 st0 (q.pl ops.size) := by
  unfold stepPl at h
  refine pass_ok hb ops.toList 0 q (fun t => by simp) ?_
  split at h
  · rename_i x p hp
    rw [hp]
    split at h
    · rename_i hho
      cases h
      exact goal_ask (p := p.pl ops.size) (x := x) hho (hqs { p with st := forkPc p.st x true } (by simp)) (hqs { p with st := forkPc p.st x false } (by simp))
    · cases h
  · rename_i p hp
    rw [hp]
    split at h
    · rename_i hr
      cases h
      refine goal_acts (p := p.pl ops.size) (lf := lf) hE hb hsel (fun _ => hends p (by simp)) (fun i hi => ?_)
      have := ready_from hb hi
      rw [hr] at this; cases this
    · rename_i i l hr
      split at h
      · rename_i qs2 b2 hact
        cases h
        have main : ∀ k ∈ Region.ready .any ops (p.pl ops.size).listed, Acts P glob E lf ops (Goal P glob ops Q e0 S w0 st0) (p.pl ops.size) k := fun k hk => by
          have hk2 : k ∈ i :: l := by rw [← hr]; exact ready_from hb hk
          obtain ⟨o, m, xs, ps, k1, k2, k3, k4⟩ := actAll_ok hact k hk2
          refine ⟨o, m, xs, ps.map (Qp.pl ops.size), k1, k2, behind_P (Array.getElem?_eq_some_iff.1 k1).1 k3, fun q' hq' => ?_⟩
          obtain ⟨p', hp', rfl⟩ := List.mem_map.1 hq'
          exact hqs p' (k4 p' hp')
        by_cases hnil : Region.ready .any ops (p.pl ops.size).listed = []
        · have hmem : i ∈ readyFrom p.lm ops.toList 0 := by rw [hr]; simp
          obtain ⟨k, o, h1, h2, h3⟩ := readyFrom_ok hmem
          have : i ∈ Region.ready .any ops (p.pl ops.size).listed := (ready_bits hb).2 ⟨o, by rw [h2, Nat.zero_add]; simpa using h1, h3⟩
          rw [hnil] at this; cases this
        · exact goal_acts (p := p.pl ops.size) (lf := lf) hE hb hsel (fun hn => absurd hn hnil) main
      · cases h

theorem stepAll_ok : ∀ {l : List Qp} {b b' : Bk} {qs ends : List Qp}, stepAll P glob E lf ops l b = some (qs, ends, b') → ∀ p ∈ l, ∃ b1 b2 qs1 ends1, stepPl P glob E lf ops p b1 = some (qs1, ends1, b2) ∧ (∀ q ∈ qs1, q ∈ qs) ∧ ∀ q ∈ ends1, q ∈ ends
  | [], _, _, _, _, _, p, hp => by cases hp
  | x :: l, b, b', qs, ends, h, p, hp => by
    simp only [stepAll] at h
    split at h
    · cases h
    · rename_i qs1 ends1 b1 h1
      split at h
      · cases h
      · rename_i qs2 ends2 b2 h2
        cases h
        rcases List.mem_cons.1 hp with rfl | hp
        · exact ⟨b, b1, qs1, ends1, h1, fun q hq => List.mem_append_left _ hq, fun q hq => List.mem_append_left _ hq⟩
        · obtain ⟨c1, c2, qs3, ends3, k1, k2, k3⟩ := stepAll_ok h2 p hp
          exact ⟨c1, c2, qs3, ends3, k1, fun q hq => List.mem_append_right _ (k2 q hq), fun q hq => List.mem_append_right _ (k3 q hq)⟩

theorem explore_ends : ∀ {n : Nat} {l ends es : List Qp} {b b' : Bk}, explore P glob E lf ops n l ends b = some (es, b') → ∀ p ∈ ends, p ∈ es
  | 0, _, _, _, _, _, h, p, hp => by cases h
  | n + 1, [], ends, es, b, b', h, p, hp => by cases h; exact hp
  | n + 1, x :: l, ends, es, b, b', h, p, hp => by
    simp only [explore] at h
    split at h
    · cases h
    · exact explore_ends h p (addAll_mem (.inr hp))
theorem explore_ok (hE : Snd P glob E) (hb : edgesBack ops = true) (hsel : noSelect ops) : ∀ (n : Nat) (l ends es : List Qp) (b b' : Bk), explore P glob E lf ops n l ends b = some (es, b') →
    EndsGood Q e0 S w0 st0 es → ∀ p ∈ l, Goal P glob ops Q e0 S w0 st0 (p.pl ops.size)
  | 0, _, _, _, _, _, h, _, _, _ => by cases h
  | n + 1, [], _, _, _, _, _, _, p, hp => by cases hp
  | n + 1, x :: l, ends, es, b, b', h, hes, p, hp => by
    simp only [explore] at h
    split at h
    · cases h
    · rename_i qs es1 b1 h1
      obtain ⟨c1, c2, qs2, ends2, k1, k2, k3⟩ := stepAll_ok h1 p hp
      have ih := explore_ok hE hb hsel n _ _ _ _ _ h hes
      exact stepPl_ok hE hb hsel p c1 qs2 ends2 c2 k1 (fun q hq => ih q (addAll_mem (.inl (k2 q hq)))) (fun q hq => hes q (explore_ends h q (addAll_mem (.inl (k3 q hq)))))

/-- **A region that draws its order.** -/
theorem drawOps_ok (hE : Snd P glob E) (hm : P.follows .mixedOrders = true) (hsel : noSelect ops) {id : Nat} {ways : List (Fr × St)} (hq : drawOps P glob E lf ops fr st = some ways)
    (f : Fm e st.hp fr a) (g : GOk glob e st.hp) (r : Rep e S w0 st.hp w) (hh : Holds e.int st.pc) (hK : Ways1 e S w0 st (Q .normal) ways) : (Code.region id ops true).wp P Q a w := by
  unfold drawOps at hq
  split at hq
  · cases hq
  · rename_i hb
    split at hq
    · rename_i ends b hex
      cases hq
      have hG := explore_ok (Q := Q) (e0 := e) (S := S) (w0 := w0) (st0 := st) hE hb hsel _ _ _ _ _ _ hex (fun p hp e' w' a' hl hr hho hf => by
        refine hK p.fr { p.st with nxt := b.top } (List.mem_map.2 ⟨p, hp, rfl⟩) e' w' a' ⟨hl, hr, hho⟩ hf) _ (List.mem_singleton.2 rfl)
      refine wp_region_any hm ?_
      have none_listed : ∀ i, (bitsArr ops.size 0).getD i false = false := fun i => by
        by_cases h : i < ops.size
        · rw [bitsArr_getD h]; simp
        · have hs : ¬ i < (bitsArr ops.size 0).size := by rw [bitsArr_size]; exact h
          simp [Array.getD_eq_getD_getElem?, hs]
      have same : bitsArr ops.size 0 = Array.replicate ops.size false := by
        apply Array.ext
        · simp [bitsArr]
        · intro j h1 h2
          have := none_listed j
          simp only [Array.getD_eq_getD_getElem?, Array.getElem?_eq_getElem h1, Option.getD_some] at this
          rw [this]; simp
      have hG' : wpAny P .any ops Q ops.size (bitsArr ops.size 0) a { w with drawn := w.drawn + 1 } := hG ops.size e (bitsArr ops.size 0) a _ (.refl _ _) ?_ ?_
      · rw [same] at hG'
        exact hG'
      · exact ⟨by simp [bitsArr], by simp [Qp.pl, bitsArr], fun j o _ hj => (by rw [none_listed] at hj; cases hj), fun j o _ hj => (by rw [show (Qp.pl ops.size _).listed = bitsArr ops.size 0 from rfl, none_listed] at hj; cases hj), fun i hi => hi, fun i hi => (by rw [show (Qp.pl ops.size _).listed = bitsArr ops.size 0 from rfl, none_listed] at hi; cases hi), fun i hi => (by cases hi), f.df, by rw [f.tm.tmps]; simp [denL_length, Qp.pl], fun t => .inr (by rw [f.tm.tmps]; simp [Qp.pl]), f.tm.ok, f.dok, g, r.drawn, hh⟩
      · exact Nat.le_trans (List.length_filter_le _ _) (by simp)
    · cases hq

/-! Code -/
def noSelectCode : Code → Prop
  | .region _ ops _ => noSelect ops
  | .seq x y => noSelectCode x ∧ noSelectCode y
  | .cond _ x y => noSelectCode x ∧ noSelectCode y
  | .block _ x => noSelectCode x
  | .loop x => noSelectCode x
  | _ => True

def Ways2 (e : Env) (S : Nat → Prop) (w0 : World) (st : St) (Q : Exit → Act → World → Prop) (ways : Ways) : Prop :=
  ∀ x fr' st', (x, fr', st') ∈ ways → ∀ e' w' a', After e S w0 st e' st' w' → Fm e' st'.hp fr' a' → Q x a' w'

/-- A reader of code that says what is so. -/
def SndC (P : Program) (glob : Nat → Option Nat) (c : Code) (k : Fr → St → Option Ways) : Prop :=
  ∀ fr st ways, k fr st = some ways → ∀ e S w0 w a Q, Fm e st.hp fr a → GOk glob e st.hp → Rep e S w0 st.hp w → Holds e.int st.pc → Ways2 e S w0 st Q ways → c.wp P Q a w

theorem rounds_ok {c : Code} {k : Fr → St → Option Ways} (hk : SndC P glob c k) : ∀ (n : Nat) (fr : Fr) (st : St) (ways : Ways), rounds k n fr st = some ways →
    ∀ e S w0 w a Q, Fm e st.hp fr a → GOk glob e st.hp → Rep e S w0 st.hp w → Holds e.int st.pc → Ways2 e S w0 st Q ways → Code.rounds P c Q n a w
  | 0, _, _, _, h => by cases h
  | n + 1, fr, st, ways, h => by
    intro e S w0 w a Q f g r hh hK
    simp only [rounds] at h
    split at h
    · rename_i xs hxs
      rw [rounds_succ]
      refine hk fr st xs hxs e S w0 w a _ f g r hh fun x fr' st' hm e' w' a' haf hf => ?_
      obtain ⟨m, hm1, hm2⟩ := bindL_ok h (x, fr', st') hm
      have stop : x ≠ .normal → (some [(x, fr', st')] = some m) → Q x a' w' := fun _ he => by
        cases he
        exact hK x fr' st' (hm2 _ (by simp)) e' w' a' haf hf
      cases x with
      | normal =>
        exact rounds_ok hk n fr' st' m hm1 e' S w0 w' a' Q hf (g.later haf.later) haf.rep haf.holds (fun x2 fr2 st2 h2 e2 w2 a2 haf2 hf2 => hK x2 fr2 st2 (hm2 _ h2) e2 w2 a2 (haf.trans haf2) hf2)
      | exit id => exact stop (by simp) hm1
      | goto id => exact stop (by simp) hm1
      | ret => exact stop (by simp) hm1
      | panic ch => exact stop (by simp) hm1
      | outgrown => exact stop (by simp) hm1
    · cases h

theorem codeEval_ok (hE : Snd P glob E) (hm : P.follows .mixedOrders = true) : ∀ (c : Code), noSelectCode c → SndC P glob c (codeEval P glob E lf c)
  | .skip, _ => fun fr st ways h e S w0 w a Q f g r hh hK => by
    cases h; exact wp_skip (hK _ _ _ (by simp) e w a (.refl r hh) f)
  | .label l, _ => fun fr st ways h e S w0 w a Q f g r hh hK => by
    cases h; exact wp_label (hK _ _ _ (by simp) e w a (.refl r hh) f)
  | .exit id, _ => fun fr st ways h e S w0 w a Q f g r hh hK => by
    cases h; exact wp_exit (hK _ _ _ (by simp) e w a (.refl r hh) f)
  | .ret, _ => fun fr st ways h e S w0 w a Q f g r hh hK => by
    cases h; exact wp_ret (hK _ _ _ (by simp) e w a (.refl r hh) f)
  | .region id ops draw, hsel => fun fr st ways h e S w0 w a Q f g r hh hK => by
    simp only [codeEval] at h
    split at h
    · rename_i xs hxs
      cases h
      have hK' : Ways1 e S w0 st (Q .normal) xs := fun fr' st' hmem e' w' a' haf hf => hK .normal fr' st' (List.mem_map.2 ⟨(fr', st'), hmem, rfl⟩) e' w' a' haf hf
      cases draw
      · exact wp_region_list (listOps_ok hE ops.toList fr st xs e w a hxs f g r hh hK')
      · exact drawOps_ok hE hm hsel hxs f g r hh hK'
    · cases h
  | .seq x y, hsel => fun fr st ways h e S w0 w a Q f g r hh hK => by
    simp only [codeEval] at h
    split at h
    · rename_i xs hxs
      refine wp_seq (codeEval_ok hE hm x hsel.1 fr st xs hxs e S w0 w a _ f g r hh fun ex fr' st' hmem e' w' a' haf hf => ?_)
      obtain ⟨m, hm1, hm2⟩ := bindL_ok h (ex, fr', st') hmem
      have stop : (some [(ex, fr', st')] = some m) → Q ex a' w' := fun he => by
        cases he
        exact hK ex fr' st' (hm2 _ (by simp)) e' w' a' haf hf
      cases ex with
      | normal => exact codeEval_ok hE hm y hsel.2 fr' st' m hm1 e' S w0 w' a' Q hf (g.later haf.later) haf.rep haf.holds (fun x2 fr2 st2 h2 e2 w2 a2 haf2 hf2 => hK x2 fr2 st2 (hm2 _ h2) e2 w2 a2 (haf.trans haf2) hf2)
      | exit id => exact stop hm1
      | goto id => exact stop hm1
      | ret => exact stop hm1
      | panic ch => exact stop hm1
      | outgrown => exact stop hm1
    · cases h
  | .cond c x y, hsel => fun fr st ways h e S w0 w a Q f g r hh hK => by
    simp only [codeEval] at h
    split at h
    · rename_i n hc
      have hev := (opd_ok f.tm g hc).1
      rw [den_b] at hev
      split at h
      · rename_i hd
        have hd := dec_tr hh hd
        rw [hd] at hev
        exact wp_cond hev (codeEval_ok hE hm x hsel.1 fr st ways h e S w0 w a Q f g r hh hK)
      · rename_i hd
        have hd := dec_tr hh hd
        rw [hd] at hev
        exact wp_cond hev (codeEval_ok hE hm y hsel.2 fr st ways h e S w0 w a Q f g r hh hK)
      · split at h
        · rename_i l m h1 h2
          cases h
          by_cases hn : n.den e.int = 0
          · have ht : Holds e.int (forkPc st n false).pc := hh.add (by simp [hn])
            have hev2 : a.eval c = .bool false := by
              rw [hev]
              congr 1
              cases hq : tr (n.den e.int)
              · rfl
              · exact absurd hn ((tr_iff _).1 hq)
            exact wp_cond hev2 (codeEval_ok hE hm y hsel.2 fr (forkPc st n false) m h2 e S w0 w a Q f g r ht (fun x2 fr2 st2 h2 e2 w2 a2 haf2 hf2 => hK x2 fr2 st2 (List.mem_append_right _ h2) e2 w2 a2 haf2.fork hf2))
          · have ht : Holds e.int (forkPc st n true).pc := hh.add (by simp [hn])
            have hev2 : a.eval c = .bool true := by rw [hev, (tr_iff _).2 hn]
            exact wp_cond hev2 (codeEval_ok hE hm x hsel.1 fr (forkPc st n true) l h1 e S w0 w a Q f g r ht (fun x2 fr2 st2 h2 e2 w2 a2 haf2 hf2 => hK x2 fr2 st2 (List.mem_append_left _ h2) e2 w2 a2 haf2.fork hf2))
        · cases h
    · cases h
  | .block id c, hsel => fun fr st ways h e S w0 w a Q f g r hh hK => by
    simp only [codeEval] at h
    split at h
    · rename_i xs hxs
      cases h
      refine wp_block (codeEval_ok hE hm c hsel fr st xs hxs e S w0 w a _ f g r hh fun ex fr' st' hmem e' w' a' haf hf => ?_)
      have keep := hK (leaveBlock id ex) fr' st' (List.mem_map.2 ⟨(ex, fr', st'), hmem, rfl⟩) e' w' a' haf hf
      cases ex with
      | exit id' =>
        simp only [Exit.inBlock]
        simp only [leaveBlock] at keep
        by_cases hid : id' = id
        · rw [if_pos hid]
          subst hid
          rw [Nat.beq_refl] at keep; exact keep
        · rw [if_neg hid]
          have : Nat.beq id' id = false := by
            cases hq : Nat.beq id' id
            · rfl
            · exact absurd (beq_true hq) hid
          rw [this] at keep; exact keep
      | normal => exact keep
      | goto l => exact keep
      | ret => exact keep
      | panic ch => exact keep
      | outgrown => exact keep
    · cases h
  | .loop c, hsel => fun fr st ways h e S w0 w a Q f g r hh hK =>
    wp_loop_rounds lf (rounds_ok (codeEval_ok hE hm c hsel) lf fr st ways h e S w0 w a Q f g r hh hK)
  | .rangeFunc _ _ _ _, _ => fun fr st ways h => by cases h
  | .scope _, _ => fun fr st ways h => by cases h
  | .goto _, _ => fun fr st ways h => by cases h
  | .refuse _, _ => fun fr st ways h => by cases h
end
end Go.Proofs.Ytphiankhcbmgmaa.Sx
