/- FrameChecks: awake, and the law's body. -/
import Derived.Test.YtnfnhhphoiebbaaFg
import Derived.Test.YtnfnhhphoiebbaaSv
set_option linter.unusedVariables false
set_option linter.unusedSimpArgs false
namespace Go.Proofs.Ytnfnhhphoiebbaa
open Go.RowKit
def Yes (w : World) (e : Ending) (w' : World) : Prop := e = .returned (.bool true) ∧ Below w.heap.size w w'
set_option maxRecDepth 100000 in
theorem read_awake : Sx.yes (Sx.ev Try.prog Sx.noGlob Sx.noBase 300 30 [] 6 [] Sx.st00) = true := by kernel_rfl
theorem awake_any (w : World) : Calls Try.prog 6 #[] w (Yes w) :=
  Sx.calls_yes (Sx.noBase_ok _ _) (by kernel_rfl) (args := []) trivial read_awake (fun _ => 0) (fun _ => undef) w
theorem checks_long (G : Int) (a : Option Addr) (n cap : Nat) (w : World) (h : 60 < n) : Calls Try.prog 3 #[.slice a n cap, .int .i64 G] w (Yes w) := by
  go_enter Try.func3, Try.ntmps3
  go_wp2_with (go_at_call 6; refine (awake_any _).mono ?_; rintro e w' ⟨rfl, hb⟩)
  go_ret
  exact ⟨rfl, hb⟩
theorem checks_bad (G : Int) (a : Option Addr) (n cap : Nat) (l : List Win) (w : World) (hG1 : -9223372036854775808 ≤ G) (hG2 : G ≤ 9223372036854775807) (hn : ¬ 60 < n) (hf : IsWins w a n l) (hc : chk G l ≠ 0) : Calls Try.prog 3 #[.slice a n cap, .int .i64 G] w (Yes w) := by
  have HN := Lib.hid (new_bad G a n cap l w hG1 hG2 (by omega) hf hc)
  have HC := Lib.hid (fun wx (hb : Below w.heap.size w wx) => check_any G a n cap l wx hG1 hG2 (by omega) (hf.later hb))
  have HD := Lib.hid (fun wx (hb : Below w.heap.size w wx) => dcheck_any G a n cap l wx hG1 hG2 (by omega) (hf.later hb))
  have e0 : ((chk G l : Int) == 0) = false := beq_eq_false_iff_ne.2 (by omega)
  clear hf hc
  generalize chk G l = c at HN HC HD e0
  go_enter Try.func3, Try.ntmps3
  go_wp2_with (first
    | (go_at_call 6; have Hx := H2; refine (awake_any _).mono ?_; rintro e w3 ⟨rfl, hb3⟩)
    | (go_at_call 9; refine (HD.out _ H2.out).mono ?_; rintro e w3 ⟨rfl, rfl⟩)
    | (go_at_call 8; refine (HC.out _ H1.out).mono ?_; rintro e w2 ⟨rfl, hb2⟩; have H2 := Lib.hid (H1.out.trans (hb2.mono H1.out.size)); clear hb2)
    | (go_at_call 7; refine HN.out.mono ?_; rintro e w1 ⟨rfl, hb1⟩; have H1 := Lib.hid hb1; clear hb1))
  go_ret
  exact ⟨rfl, H2.out.trans (hb3.mono H2.out.size)⟩
theorem checks_ok (G : Int) (b off n cap : Nat) (l : List Win) (w : World) (hG1 : -9223372036854775808 ≤ G) (hG2 : G ≤ 9223372036854775807) (hn : ¬ 60 < n) (hf : IsWins w (some ⟨b, off, none⟩) n l) (hc : chk G l = 0) : Calls Try.prog 3 #[.slice (some ⟨b, off, none⟩) n cap, .int .i64 G] w (Yes w) := by
  have HN := Lib.hid (new_ok G b off n cap l w hG1 hG2 hf hc)
  have HC := Lib.hid (fun wx (hb : Below w.heap.size w wx) => check_any G (some ⟨b, off, none⟩) n cap l wx hG1 hG2 (by omega) (hf.later hb))
  have HD := Lib.hid (fun wx (hb : Below w.heap.size w wx) => dcheck_any G (some ⟨b, off, none⟩) n cap l wx hG1 hG2 (by omega) (hf.later hb))
  rw [hc] at HC HD
  clear hf hc
  go_enter Try.func3, Try.ntmps3
  go_wp2_with (first
    | (go_at_call 6; have Hx := H2; refine (awake_any _).mono ?_; rintro e w3 ⟨rfl, hb3⟩)
    | (go_at_call 9; refine (HD.out _ H2.out).mono ?_; rintro e w3 ⟨rfl, rfl⟩)
    | (go_at_call 8; refine (HC.out _ H1.out).mono ?_; rintro e w2 ⟨rfl, hb2⟩; have H2 := Lib.hid (H1.out.trans (hb2.mono H1.out.size)); clear hb2)
    | (go_at_call 7; refine HN.out.mono ?_; rintro e w1 ⟨p, wv, bv, rfl, hnw⟩; have H1 := Lib.hid hnw.bel; clear hnw))
  go_ret
  exact ⟨rfl, H2.out.trans (hb3.mono H2.out.size)⟩
theorem checks_any (G : Int) (a : Option Addr) (n cap : Nat) (l : List Win) (w : World) (hG1 : -9223372036854775808 ≤ G) (hG2 : G ≤ 9223372036854775807) (hf : IsWins w a n l) : Calls Try.prog 3 #[.slice a n cap, .int .i64 G] w (Yes w) := by
  by_cases hn : 60 < n
  · exact checks_long G a n cap w hn
  · by_cases hc : chk G l = 0
    · obtain ⟨f, hk⟩ : ∃ f, l[0]? = some f := ⟨_, List.getElem?_eq_getElem (chk_good hc).n1⟩
      obtain ⟨_, b, off, rfl, _⟩ := win_at hf hk
      exact checks_ok G b off n cap l w hG1 hG2 hn hf hc
    · exact checks_bad G a n cap l w hG1 hG2 hn hf hc
end Go.Proofs.Ytnfnhhphoiebbaa
