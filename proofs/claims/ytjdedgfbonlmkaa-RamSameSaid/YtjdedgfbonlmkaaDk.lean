/- one: a call of both memories answers true, and keeps them the same. -/
import Derived.Test.YtjdedgfbonlmkaaDj
set_option linter.unusedVariables false
set_option linter.unusedSimpArgs false
namespace Go.Proofs.Ytjdedgfbonlmkaa
open Go.RowKit
theorem box_keep {wr w1 : World} {B g k : Nat} {t : TypeId} {cs : Array Value} (h : Box wr k t cs) (ht : Touch (Own2 B g) wr w1) (h1 : k ≠ B) (h2 : k ≠ g) : Box w1 k t cs := h.touch ht (by rintro (h | h) <;> contradiction)
theorem str_self (s : ByteArray) : (s.toList == s.toList) = true := by simp
set_option maxHeartbeats 4000000 in
set_option maxRecDepth 200000 in
theorem one_any {wr : World} {B g C N W A D base : Nat} {l : List UInt8} (h : Pm wr B g C N W A D l base) (q a x : Nat) (z : Int) (s : ByteArray) (hq : q < 256) (ha : a < 18446744073709551616) (hx : x < 18446744073709551616) (hs : s.size ≤ 100) : Calls Try.prog 16 #[.pointer (some ⟨B, 0, none⟩), .pointer (some ⟨C, 0, none⟩), .agg #[.int .u8 q, .int .u64 a, .int .u64 x, .int .i64 z, .string s]] wr fun e w' => e = .returned (.bool true) ∧ Out wr w' B g C N base := by
  have hB := h.rm.box.inHeap
  have hg := h.rm.mem.inHeap
  have hN := h.rm.big
  have HS := Lib.hid (h.more (.cells #[.int .u8 q, .int .u64 a, .int .u64 x, .int .i64 z, .string s] 35))
  have HE := Lib.hid (Box.made wr 35 #[.int .u8 q, .int .u64 a, .int .u64 x, .int .i64 z, .string s])
  have HX := Lib.hid (And.intro hB (And.intro hg ((Below.refl wr.heap.size wr).alloc (Nat.le_refl _) (.cells #[.int .u8 q, .int .u64 a, .int .u64 x, .int .i64 z, .string s] 35))))
  have hm : q % 10 < 10 := Nat.mod_lt _ (by decide)
  have hmi : ((q : Int) % 10) = ((q % 10 : Nat) : Int) := by omega
  generalize q % 10 = r at hm hmi
  clear h hB hg hN
  have hcase : ((q : Int) % 10 = 0 ∨ (q : Int) % 10 = 1) ∨ ((q : Int) % 10 = 2 ∨ (q : Int) % 10 = 3) ∨ (q : Int) % 10 = 4 ∨ (q : Int) % 10 = 5 ∨ (q : Int) % 10 = 6 ∨ (q : Int) % 10 = 7 ∨ ((q : Int) % 10 = 8 ∨ (q : Int) % 10 = 9) := by omega
  clear hm hmi
  rcases hcase with (hc | hc) | (hc | hc) | hc | hc | hc | hc | hc
  · as_aux_lemma =>
      have HR := Lib.hid (pm_read HS.out a z)
      generalize rdV l N a z = V at HR
      generalize rdB N a z = b at HR
      go_enter Try.func16, Try.ntmps16
      go_wp2_with (first
        | (go_at_call 26; refine (HR.out).mono ?_; rintro e w1 ⟨rfl, ht, h2⟩; have HE1 := Lib.hid (box_keep HE.out ht (by have := HX.out.1; omega) (by have := HX.out.2.1; omega)); have a1 : w1.cell? ⟨wr.heap.size, 1, none⟩ = some (.int .u64 a) := HE1.out.read 1; have a2 : w1.cell? ⟨wr.heap.size, 2, none⟩ = some (.int .u64 x) := HE1.out.read 2; have a3 : w1.cell? ⟨wr.heap.size, 3, none⟩ = some (.int .i64 z) := HE1.out.read 3; have a4 : w1.cell? ⟨wr.heap.size, 4, none⟩ = some (.string s) := HE1.out.read 4; clear ht)
        | (go_at_call 31; refine h2.out.mono ?_; rintro e w2 ⟨rfl, ho⟩; have HO := Lib.hid ho; clear ho))
      go_ret
      exact ⟨rfl, HO.out.after HX.out.2.2⟩
  · as_aux_lemma =>
      have HR := Lib.hid (pm_read HS.out a z)
      generalize rdV l N a z = V at HR
      generalize rdB N a z = b at HR
      go_enter Try.func16, Try.ntmps16
      go_wp2_with (first
        | (go_at_call 26; refine (HR.out).mono ?_; rintro e w1 ⟨rfl, ht, h2⟩; have HE1 := Lib.hid (box_keep HE.out ht (by have := HX.out.1; omega) (by have := HX.out.2.1; omega)); have a1 : w1.cell? ⟨wr.heap.size, 1, none⟩ = some (.int .u64 a) := HE1.out.read 1; have a2 : w1.cell? ⟨wr.heap.size, 2, none⟩ = some (.int .u64 x) := HE1.out.read 2; have a3 : w1.cell? ⟨wr.heap.size, 3, none⟩ = some (.int .i64 z) := HE1.out.read 3; have a4 : w1.cell? ⟨wr.heap.size, 4, none⟩ = some (.string s) := HE1.out.read 4; clear ht)
        | (go_at_call 31; refine h2.out.mono ?_; rintro e w2 ⟨rfl, ho⟩; have HO := Lib.hid ho; clear ho))
      go_ret
      exact ⟨rfl, HO.out.after HX.out.2.2⟩
  · as_aux_lemma =>
      have HR := Lib.hid (pm_write HS.out a x z hx)
      generalize wrB N a z = b at HR
      go_enter Try.func16, Try.ntmps16
      go_wp2_with (first
        | (go_at_call 24; refine (HR.out).mono ?_; rintro e w1 ⟨rfl, ht, h2⟩; have HE1 := Lib.hid (box_keep HE.out ht (by have := HX.out.1; omega) (by have := HX.out.2.1; omega)); have a1 : w1.cell? ⟨wr.heap.size, 1, none⟩ = some (.int .u64 a) := HE1.out.read 1; have a2 : w1.cell? ⟨wr.heap.size, 2, none⟩ = some (.int .u64 x) := HE1.out.read 2; have a3 : w1.cell? ⟨wr.heap.size, 3, none⟩ = some (.int .i64 z) := HE1.out.read 3; have a4 : w1.cell? ⟨wr.heap.size, 4, none⟩ = some (.string s) := HE1.out.read 4; clear ht)
        | (go_at_call 32; refine h2.out.mono ?_; rintro e w2 ⟨rfl, ho⟩; have HO := Lib.hid ho; clear ho))
      go_ret
      exact ⟨rfl, HO.out.after HX.out.2.2⟩
  · as_aux_lemma =>
      have HR := Lib.hid (pm_write HS.out a x z hx)
      generalize wrB N a z = b at HR
      go_enter Try.func16, Try.ntmps16
      go_wp2_with (first
        | (go_at_call 24; refine (HR.out).mono ?_; rintro e w1 ⟨rfl, ht, h2⟩; have HE1 := Lib.hid (box_keep HE.out ht (by have := HX.out.1; omega) (by have := HX.out.2.1; omega)); have a1 : w1.cell? ⟨wr.heap.size, 1, none⟩ = some (.int .u64 a) := HE1.out.read 1; have a2 : w1.cell? ⟨wr.heap.size, 2, none⟩ = some (.int .u64 x) := HE1.out.read 2; have a3 : w1.cell? ⟨wr.heap.size, 3, none⟩ = some (.int .i64 z) := HE1.out.read 3; have a4 : w1.cell? ⟨wr.heap.size, 4, none⟩ = some (.string s) := HE1.out.read 4; clear ht)
        | (go_at_call 32; refine h2.out.mono ?_; rintro e w2 ⟨rfl, ho⟩; have HO := Lib.hid ho; clear ho))
      go_ret
      exact ⟨rfl, HO.out.after HX.out.2.2⟩
  · as_aux_lemma =>
      have HR := Lib.hid (pm_put HS.out a s (by omega))
      generalize putE (putB N a s.size) = V at HR
      go_enter Try.func16, Try.ntmps16
      go_wp2_with (first
        | (go_at_call 23; refine (HR.out).mono ?_; rintro e w1 ⟨rfl, ht, h2⟩; have HE1 := Lib.hid (box_keep HE.out ht (by have := HX.out.1; omega) (by have := HX.out.2.1; omega)); have a1 : w1.cell? ⟨wr.heap.size, 1, none⟩ = some (.int .u64 a) := HE1.out.read 1; have a2 : w1.cell? ⟨wr.heap.size, 2, none⟩ = some (.int .u64 x) := HE1.out.read 2; have a3 : w1.cell? ⟨wr.heap.size, 3, none⟩ = some (.int .i64 z) := HE1.out.read 3; have a4 : w1.cell? ⟨wr.heap.size, 4, none⟩ = some (.string s) := HE1.out.read 4; clear ht)
        | (go_at_call 33; refine h2.out.mono ?_; rintro e w2 ⟨rfl, ho⟩; have HO := Lib.hid ho; clear ho))
      go_ret
      exact ⟨rfl, HO.out.after HX.out.2.2⟩
  · as_aux_lemma =>
      have HR := Lib.hid (pm_bytes HS.out a (x % 100))
      have e1 := str_self (byS l N a (x % 100))
      generalize byS l N a (x % 100) = T at HR e1
      generalize byE N a (x % 100) = V at HR
      go_enter Try.func16, Try.ntmps16
      go_wp2_with (first
        | (go_at_call 19; refine (HR.out).mono ?_; rintro e w1 ⟨rfl, ht, h2⟩; have HE1 := Lib.hid (box_keep HE.out ht (by have := HX.out.1; omega) (by have := HX.out.2.1; omega)); have a1 : w1.cell? ⟨wr.heap.size, 1, none⟩ = some (.int .u64 a) := HE1.out.read 1; have a2 : w1.cell? ⟨wr.heap.size, 2, none⟩ = some (.int .u64 x) := HE1.out.read 2; have a3 : w1.cell? ⟨wr.heap.size, 3, none⟩ = some (.int .i64 z) := HE1.out.read 3; have a4 : w1.cell? ⟨wr.heap.size, 4, none⟩ = some (.string s) := HE1.out.read 4; clear ht)
        | (go_at_call 34; refine h2.out.mono ?_; rintro e w2 ⟨rfl, ho⟩; have HO := Lib.hid ho; clear ho))
      go_ret
      exact ⟨rfl, HO.out.after HX.out.2.2⟩
  · as_aux_lemma =>
      have HR := Lib.hid (pm_reserve HS.out a z ha)
      generalize resB N a z = b at HR
      go_enter Try.func16, Try.ntmps16
      go_wp2_with (first
        | (go_at_call 27; refine (HR.out).mono ?_; rintro e w1 ⟨rfl, ht, h2⟩; have HE1 := Lib.hid (box_keep HE.out ht (by have := HX.out.1; omega) (by have := HX.out.2.1; omega)); have a1 : w1.cell? ⟨wr.heap.size, 1, none⟩ = some (.int .u64 a) := HE1.out.read 1; have a2 : w1.cell? ⟨wr.heap.size, 2, none⟩ = some (.int .u64 x) := HE1.out.read 2; have a3 : w1.cell? ⟨wr.heap.size, 3, none⟩ = some (.int .i64 z) := HE1.out.read 3; have a4 : w1.cell? ⟨wr.heap.size, 4, none⟩ = some (.string s) := HE1.out.read 4; clear ht)
        | (go_at_call 35; refine h2.out.mono ?_; rintro e w2 ⟨rfl, ho⟩; have HO := Lib.hid ho; clear ho))
      go_ret
      exact ⟨rfl, HO.out.after HX.out.2.2⟩
  · as_aux_lemma =>
      have HR := Lib.hid (fun k => pm_held (HS.out.over (below_drewN (Below.refl _ _) k)) a z)
      have HR2 := Lib.hid (fun k => pm_dheld (HS.out.over (below_drewN (Below.refl _ _) k)) a z)
      generalize hdB W A a z = b at HR HR2
      have d1 : (wr.alloc (.cells #[.int .u8 q, .int .u64 a, .int .u64 x, .int .i64 z, .string s] 35)).cell? ⟨wr.heap.size, 1, none⟩ = some (.int .u64 a) := HE.out.read 1
      have d3 : (wr.alloc (.cells #[.int .u8 q, .int .u64 a, .int .u64 x, .int .i64 z, .string s] 35)).cell? ⟨wr.heap.size, 3, none⟩ = some (.int .i64 z) := HE.out.read 3
      go_enter Try.func16, Try.ntmps16
      go_wp2
      go_quiet (first
        | (go_at_call 17; exact Calls.quiet_of_same (HR.out _))
        | (go_at_call 18; exact Calls.quiet_of_same (HR2.out _)))
      go_wp2
      go_ret
      exact ⟨by first | rfl | (cases b <;> rfl), (HS.out.same (below_drewN (Below.refl _ _) _)).after HX.out.2.2⟩
  · have hn : ¬ (q : Int) % 10 = 0 ∧ ¬ (q : Int) % 10 = 1 ∧ ¬ (q : Int) % 10 = 2 ∧ ¬ (q : Int) % 10 = 3 ∧ ¬ (q : Int) % 10 = 4 ∧ ¬ (q : Int) % 10 = 5 ∧ ¬ (q : Int) % 10 = 6 ∧ ¬ (q : Int) % 10 = 7 := by omega
    obtain ⟨n0, n1, n2, n3, n4, n5, n6, n7⟩ := hn
    clear hc
    by_cases hz : 4 < z
    · as_aux_lemma =>
        have HR := Lib.hid (pm_clear HS.out)
        go_enter Try.func16, Try.ntmps16
        go_wp2_with (first
          | (go_at_call 15; refine HR.out.mono ?_; rintro e w1 ⟨rfl, ht, h2⟩; clear ht)
          | (go_at_call 36; refine h2.out.mono ?_; rintro e w2 ⟨rfl, ho⟩; have HO := Lib.hid ho; clear ho))
        go_ret
        exact ⟨rfl, HO.out.after HX.out.2.2⟩
    · as_aux_lemma =>
        have HR := Lib.hid (pm_drop HS.out)
        go_enter Try.func16, Try.ntmps16
        go_wp2_with (go_at_call 28; refine HR.out.mono ?_; rintro e w1 ⟨rfl, ht, h2⟩; clear ht; have fz := h2.out.1; obtain ⟨vz, hvz⟩ := h2.out.2.1; have HO := Lib.hid h2.out.2.2; clear h2)
        go_ret
        exact ⟨rfl, HO.out.after HX.out.2.2⟩
end Go.Proofs.Ytjdedgfbonlmkaa
