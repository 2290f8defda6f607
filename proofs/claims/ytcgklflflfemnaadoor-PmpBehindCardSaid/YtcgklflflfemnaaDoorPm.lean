/- PmpBehind's body. -/
import Derived.Test.YtcgklflflfemnaaDoorPl
import Derived.Test.YtcgklflflfemnaaDoorHv
set_option linter.unusedVariables false
set_option linter.unusedSimpArgs false
namespace Go.Proofs.YtcgklflflfemnaaDoor
open Go.RowKit
abbrev accC (mode kind at' : Nat) (z : Int) : Array Value := #[.int .u8 mode, .int .u8 kind, .int .u64 at', .int .i64 z]
/-- An access, and other registers. -/
def othC (mode kind at' : Nat) (z : Int) (C : Nat) (B : Nat → Nat) : Array Value := #[.int .u8 mode, .int .u8 kind, .int .u64 at', .int .i64 z, .int .u64 C, .int .u64 (B 0), .int .u64 (B 1), .int .u64 (B 2), .int .u64 (B 3), .int .u64 (B 4), .int .u64 (B 5), .int .u64 (B 6), .int .u64 (B 7)]
theorem oth_at (mode kind at' : Nat) (z : Int) (C : Nat) (B : Nat → Nat) : ∀ k : Nat, k < 8 → (othC mode kind at' z C B)[5 + k]? = some (.int .u64 (B k))
  | 0, _ => rfl
  | 1, _ => rfl
  | 2, _ => rfl
  | 3, _ => rfl
  | 4, _ => rfl
  | 5, _ => rfl
  | 6, _ => rfl
  | 7, _ => rfl
  | k + 8, h => absurd h (by omega)
def updA (D : Nat → Nat) (k v j : Nat) : Nat := if j = k then v else D j
theorem arr_set (D : Nat → Nat) (v : Nat) : ∀ k : Nat, k < 8 → (arr D).setIfInBounds k (.int .u64 v) = arr (updA D k v)
  | 0, _ => by kernel_rfl
  | 1, _ => by kernel_rfl
  | 2, _ => by kernel_rfl
  | 3, _ => by kernel_rfl
  | 4, _ => by kernel_rfl
  | 5, _ => by kernel_rfl
  | 6, _ => by kernel_rfl
  | 7, _ => by kernel_rfl
  | k + 8, h => absurd h (by omega)
/-- How things stand in PmpBehind. -/
structure Bh (w wr : World) (A : Nat → Nat) (mode kind at' : Nat) (z : Int) (C : Nat) (B : Nat → Nat) : Prop where
  b4 : Box wr w.heap.size 23 (arr A)
  b5 : Box wr (w.heap.size + 1) 39 (othC mode kind at' z C B)
  b7 : Box wr (w.heap.size + 1 + 1) 35 (accC mode kind at' z)
  bel : Below w.heap.size w wr
section
variable {w wr w' : World} {A : Nat → Nat} {mode kind at' C : Nat} {z : Int} {B : Nat → Nat}
theorem Bh.over (h : Bh w wr A mode kind at' z C B) (k : Below wr.heap.size wr w') : Bh w w' A mode kind at' z C B :=
  ⟨h.b4.over k h.b4.inHeap, h.b5.over k h.b5.inHeap, h.b7.over k h.b7.inHeap, h.bel.trans (k.mono h.bel.size)⟩
theorem Bh.arr (h : Bh w wr A mode kind at' z C B) (j : Nat) (hj : j < 8) : wr.cell? ⟨w.heap.size, j, none⟩ = some (.int .u64 (A j)) := (h.b4.read j).trans (arr_at A j hj)
theorem Bh.put (h : Bh w wr A mode kind at' z C B) {p : Addr} (hp : w.heap.size + 1 + 1 < p.block) (u : Value) : Bh w (wr.setCell p u) A mode kind at' z C B :=
  ⟨h.b4.putFar (by omega) u, h.b5.putFar (by omega) u, h.b7.putFar (by omega) u, h.bel.setCell (by omega) u⟩
end
theorem act_genP {P : Program} {C : Code} {Q : Exit → Act → World → Prop} {a : Act} {w : World} (h : ∀ T, T = a.tmps → C.wp P Q { tmps := T, defers := a.defers } w) : C.wp P Q a w := h _ rfl
/-- What a region ends with. -/
def Only1 (R : Act → World → Prop) : Exit → Act → World → Prop
  | .normal, a, w => R a w
  | _, _, _ => False
theorem wp_only {P : Program} {C : Code} {Q : Exit → Act → World → Prop} {a : Act} {w : World} (R : Act → World → Prop) (h : C.wp P (Only1 R) a w) (k : ∀ a' w', R a' w' → Q .normal a' w') : C.wp P Q a w :=
  Go.wp_mono h fun e a' w' hr => by
    cases e with
    | normal => exact k a' w' hr
    | _ => exact hr.elim
/-- Three copies of an access, somewhere. -/
structure Cp (w W : World) (A : Nat → Nat) (mode kind at' : Nat) (z : Int) (C : Nat) (B : Nat → Nat) (U V M m1 m2 m3 : Nat) : Prop where
  bh : Bh w W A mode kind at' z C B
  bu : Box W U 35 (accC m1 kind at' z)
  bv : Box W V 35 (accC m2 kind at' z)
  bm : Box W M 35 (accC m3 kind at' z)
  uv : U ≠ V
  um : U ≠ M
  vm : V ≠ M
  hu : w.heap.size + 1 + 1 < U
  hv : w.heap.size + 1 + 1 < V
  hm : w.heap.size + 1 + 1 < M
theorem Cp.over {w W W' : World} {A : Nat → Nat} {mode kind at' C U V M m1 m2 m3 : Nat} {z : Int} {B : Nat → Nat} (h : Cp w W A mode kind at' z C B U V M m1 m2 m3) (k : Below W.heap.size W W') : Cp w W' A mode kind at' z C B U V M m1 m2 m3 :=
  ⟨h.bh.over k, h.bu.over k h.bu.inHeap, h.bv.over k h.bv.inHeap, h.bm.over k h.bm.inHeap, h.uv, h.um, h.vm, h.hu, h.hv, h.hm⟩
abbrev Hm (w : World) (A : Nat → Nat) (kind at' : Nat) (z : Int) (U M : Nat) (w' : World) : Prop :=
  w'.cell? ⟨w.heap.size, 0, none⟩ = some (.int .u64 (A 0)) ∧ w'.cell? ⟨w.heap.size, 1, none⟩ = some (.int .u64 (A 1)) ∧ w'.cell? ⟨w.heap.size, 2, none⟩ = some (.int .u64 (A 2)) ∧ w'.cell? ⟨w.heap.size, 3, none⟩ = some (.int .u64 (A 3)) ∧ w'.cell? ⟨w.heap.size, 4, none⟩ = some (.int .u64 (A 4)) ∧ w'.cell? ⟨w.heap.size, 5, none⟩ = some (.int .u64 (A 5)) ∧ w'.cell? ⟨w.heap.size, 6, none⟩ = some (.int .u64 (A 6)) ∧ w'.cell? ⟨w.heap.size, 7, none⟩ = some (.int .u64 (A 7)) ∧ w'.cell? ⟨U, 0, none⟩ = some (.int .u8 0) ∧ w'.cell? ⟨U, 1, none⟩ = some (.int .u8 kind) ∧ w'.cell? ⟨U, 2, none⟩ = some (.int .u64 at') ∧ w'.cell? ⟨U, 3, none⟩ = some (.int .i64 z) ∧ w'.cell? ⟨M, 0, none⟩ = some (.int .u8 3) ∧ w'.cell? ⟨M, 1, none⟩ = some (.int .u8 kind) ∧ w'.cell? ⟨M, 2, none⟩ = some (.int .u64 at') ∧ w'.cell? ⟨M, 3, none⟩ = some (.int .i64 z)
theorem Cp.held {w W : World} {A : Nat → Nat} {mode kind at' C U V M : Nat} {z : Int} {B : Nat → Nat} (h : Cp w W A mode kind at' z C B U V M 0 1 3) : Hm w A kind at' z U M W :=
  ⟨h.bh.arr 0 (by decide), h.bh.arr 1 (by decide), h.bh.arr 2 (by decide), h.bh.arr 3 (by decide), h.bh.arr 4 (by decide), h.bh.arr 5 (by decide), h.bh.arr 6 (by decide), h.bh.arr 7 (by decide), h.bu.read 0, h.bu.read 1, h.bu.read 2, h.bu.read 3, h.bm.read 0, h.bm.read 1, h.bm.read 2, h.bm.read 3⟩
abbrev st4 (W : World) (p : Nat) (v0 v1 v2 v3 : Value) : World := (((W.setCell ⟨p, 0, none⟩ v0).setCell ⟨p, 1, none⟩ v1).setCell ⟨p, 2, none⟩ v2).setCell ⟨p, 3, none⟩ v3
theorem st4_box {W : World} {p : Nat} {a b c d v0 v1 v2 v3 : Value} (h : Box W p 35 #[a, b, c, d]) : Box (st4 W p v0 v1 v2 v3) p 35 #[v0, v1, v2, v3] := box_eq ((((h.put 0 v0).put 1 v1).put 2 v2).put 3 v3) rfl
theorem st4_far {W : World} {p q : Nat} {t : TypeId} {cs : Array Value} {v0 v1 v2 v3 : Value} (h : Box W q t cs) (hq : q ≠ p) : Box (st4 W p v0 v1 v2 v3) q t cs := (((h.putFar (p := ⟨p, 0, none⟩) hq v0).putFar (p := ⟨p, 1, none⟩) hq v1).putFar (p := ⟨p, 2, none⟩) hq v2).putFar (p := ⟨p, 3, none⟩) hq v3
theorem st4_bh {w W : World} {A : Nat → Nat} {mode kind at' C : Nat} {z : Int} {B : Nat → Nat} {p : Nat} {v0 v1 v2 v3 : Value} (h : Bh w W A mode kind at' z C B) (hp : w.heap.size + 1 + 1 < p) : Bh w (st4 W p v0 v1 v2 v3) A mode kind at' z C B := (((h.put (p := ⟨p, 0, none⟩) hp v0).put (p := ⟨p, 1, none⟩) hp v1).put (p := ⟨p, 2, none⟩) hp v2).put (p := ⟨p, 3, none⟩) hp v3
abbrev Z4 : Array Value := #[.int .u8 0, .int .u8 0, .int .u64 0, .int .i64 0]
theorem cp_made {w W : World} {A : Nat → Nat} {mode kind at' C U V M : Nat} {z : Int} {B : Nat → Nat} (h : Bh w W A mode kind at' z C B) (bu : Box W U 35 Z4) (bv : Box W V 35 Z4) (bm : Box W M 35 Z4) (uv : U ≠ V) (um : U ≠ M) (vm : V ≠ M) (hu : w.heap.size + 1 + 1 < U) (hv : w.heap.size + 1 + 1 < V) (hm : w.heap.size + 1 + 1 < M) :
    Cp w (st4 (st4 (st4 W U (.int .u8 mode) (.int .u8 kind) (.int .u64 at') (.int .i64 z)) V (.int .u8 mode) (.int .u8 kind) (.int .u64 at') (.int .i64 z)) M (.int .u8 mode) (.int .u8 kind) (.int .u64 at') (.int .i64 z)) A mode kind at' z C B U V M mode mode mode :=
  ⟨st4_bh (st4_bh (st4_bh h hu) hv) hm, st4_far (st4_far (st4_box bu) uv) um, st4_far (st4_box (st4_far bv uv.symm)) vm, st4_box (st4_far (st4_far bm um.symm) vm.symm), uv, um, vm, hu, hv, hm⟩
theorem mt_f3 {P : Program} {ops : Array Oper} {Q : Exit → Act → World → Prop} {S : World → Prop} {n1 n2 n3 : Nat} {r1 r2 r3 : Mt} {l : List Oper} {a : Act} {w : World} (h1 : upMt P ops Q S (wpMt P ops Q S r1) n1 l a w) (h2 : upMt P ops Q S (wpMt P ops Q S r2) n2 l a w) (h3 : upMt P ops Q S (wpMt P ops Q S r3) n3 l a w) : wpMt P ops Q S (.f3 n1 r1 n2 r2 n3 r3) l a w := ⟨h1, h2, h3⟩
theorem mt_f2 {P : Program} {ops : Array Oper} {Q : Exit → Act → World → Prop} {S : World → Prop} {n1 n2 : Nat} {r1 r2 : Mt} {l : List Oper} {a : Act} {w : World} (h1 : upMt P ops Q S (wpMt P ops Q S r1) n1 l a w) (h2 : upMt P ops Q S (wpMt P ops Q S r2) n2 l a w) : wpMt P ops Q S (.f2 n1 r1 n2 r2) l a w := ⟨h1, h2⟩
theorem mt_l {P : Program} {ops : Array Oper} {Q : Exit → Act → World → Prop} {S : World → Prop} {n : Nat} {r : Mt} {l : List Oper} {a : Act} {w : World} (h : upMt P ops Q S (wpMt P ops Q S r) n l a w) : wpMt P ops Q S (.l n r) l a w := h
section
variable {W w : World} (hT : TzIs W) (hW : Below W.heap.size W w) (c : Nat) (A : Nat → Nat) (mode kind at' : Nat) (z : Int) (C : Nat) (B : Nat → Nat) (hc : c < 18446744073709551616) (hA : ∀ k, A k < 18446744073709551616) (hz0 : -9223372036854775808 ≤ z) (hz1 : z ≤ 9223372036854775807) (ha : at' < 18446744073709551616) (hC : C < 18446744073709551616) (hB : ∀ k, B k < 18446744073709551616)
include hT hW hc hA hz0 hz1 ha hC hB
set_option maxHeartbeats 16000000 in
set_option maxRecDepth 100000 in
theorem behind_any : Calls Tryd.prog 6 #[.int .u64 c, .agg (arr A), .agg (othC mode kind at' z C B)] w (Yes w) := by
  obtain ⟨W0, hW0⟩ : ∃ W0, ((w.alloc (.cells (arr A) 23)).alloc (.cells (othC mode kind at' z C B) 39)).alloc (.cells #[.int .u8 mode, .int .u8 kind, .int .u64 at', .int .i64 z] 35) = W0 := ⟨_, rfl⟩
  have x5 := Box.made (w.alloc (.cells (arr A) 23)) 39 (othC mode kind at' z C B)
  have x7 := Box.made ((w.alloc (.cells (arr A) 23)).alloc (.cells (othC mode kind at' z C B) 39)) 35 (accC mode kind at' z)
  simp only [World.size_alloc] at x5 x7
  have HB : Hid (Bh w W0 A mode kind at' z C B) := Lib.hid (by
    rw [← hW0]
    exact ⟨((Box.made w 23 _).more _).more _, x5.more _, x7, (((Below.refl _ w).alloc (Nat.le_refl _) _).alloc (by simp) _).alloc (by simp; omega) _⟩)
  have o0 : ((w.alloc (.cells (arr A) 23)).alloc (.cells (othC mode kind at' z C B) 39)).cell? ⟨w.heap.size + 1, 0, none⟩ = some (.int .u8 mode) := x5.read 0
  have o1 : ((w.alloc (.cells (arr A) 23)).alloc (.cells (othC mode kind at' z C B) 39)).cell? ⟨w.heap.size + 1, 1, none⟩ = some (.int .u8 kind) := x5.read 1
  have o2 : ((w.alloc (.cells (arr A) 23)).alloc (.cells (othC mode kind at' z C B) 39)).cell? ⟨w.heap.size + 1, 2, none⟩ = some (.int .u64 at') := x5.read 2
  have o3 : ((w.alloc (.cells (arr A) 23)).alloc (.cells (othC mode kind at' z C B) 39)).cell? ⟨w.heap.size + 1, 3, none⟩ = some (.int .i64 z) := x5.read 3
  clear x5 x7
  have r0 : W0.cell? ⟨w.heap.size, 0, none⟩ = some (.int .u64 (A 0)) := HB.out.arr 0 (by decide)
  have r1 : W0.cell? ⟨w.heap.size, 1, none⟩ = some (.int .u64 (A 1)) := HB.out.arr 1 (by decide)
  have r2 : W0.cell? ⟨w.heap.size, 2, none⟩ = some (.int .u64 (A 2)) := HB.out.arr 2 (by decide)
  have r3 : W0.cell? ⟨w.heap.size, 3, none⟩ = some (.int .u64 (A 3)) := HB.out.arr 3 (by decide)
  have r4 : W0.cell? ⟨w.heap.size, 4, none⟩ = some (.int .u64 (A 4)) := HB.out.arr 4 (by decide)
  have r5 : W0.cell? ⟨w.heap.size, 5, none⟩ = some (.int .u64 (A 5)) := HB.out.arr 5 (by decide)
  have r6 : W0.cell? ⟨w.heap.size, 6, none⟩ = some (.int .u64 (A 6)) := HB.out.arr 6 (by decide)
  have r7 : W0.cell? ⟨w.heap.size, 7, none⟩ = some (.int .u64 (A 7)) := HB.out.arr 7 (by decide)
  have t0 : W0.cell? ⟨w.heap.size + 1 + 1, 0, none⟩ = some (.int .u8 mode) := HB.out.b7.read 0
  have t1 : W0.cell? ⟨w.heap.size + 1 + 1, 1, none⟩ = some (.int .u8 kind) := HB.out.b7.read 1
  have t2 : W0.cell? ⟨w.heap.size + 1 + 1, 2, none⟩ = some (.int .u64 at') := HB.out.b7.read 2
  have t3 : W0.cell? ⟨w.heap.size + 1 + 1, 3, none⟩ = some (.int .i64 z) := HB.out.b7.read 3
  have HF := Lib.hid (fun (F : Nat) (D : Nat → Nat) (hF : F < 18446744073709551616) (hD : ∀ k, D k < 18446744073709551616) wx (hb : Below w.heap.size w wx) => first_any hT (hW.trans (hb.mono hW.size)) F D mode kind at' z hF hD hz0 hz1 ha)
  have HC := Lib.hid (fun (F : Nat) (D : Nat → Nat) (m : Nat) (hF : F < 18446744073709551616) (hD : ∀ k, D k < 18446744073709551616) wx (hb : Below w.heap.size w wx) => check_any hT (hW.trans (hb.mono hW.size)) F D m kind at' z hF hD hz0 hz1 ha)
  have HW := Lib.hid (fun wx (hb : Below w.heap.size w wx) => awake_any hT (hW.trans (hb.mono hW.size)))
  have HP := Lib.hid (And.intro hc (And.intro hA (And.intro hC hB)))
  have HZ := Lib.hid (And.intro hz0 (And.intro hz1 ha))
  obtain ⟨all, hall⟩ : ∃ all, all = decide (at' + moreOf z < 18446744073709551616) := ⟨_, rfl⟩
  rw [← hall] at HF HC
  have HL := Lib.hid hall
  generalize hiOf at' (moreOf z) = hi at HF HC
  clear hT hW hc hA hz0 hz1 ha hC hB hall
  cases hr : fst8 (entOf c A) at' hi with
  | none =>
    have HFr := Lib.hid (fun wx hb => HF.out c A HP.out.1 HP.out.2.1 wx hb)
    have HCr := Lib.hid (fun m wx hb => HC.out c A m HP.out.1 HP.out.2.1 wx hb)
    rw [hr] at HFr HCr
    have HF1 : Hid (∀ wx, Below w.heap.size w wx → Calls Tryd.prog 14 #[.int .u64 c, .agg (arr A), acc mode kind at' z] wx fun e w' => e = .returned (.tuple #[.int .i64 (-1), .bool false]) ∧ Below wx.heap.size wx w') := HFr
    obtain ⟨r, hrr⟩ : ∃ r : Option (Nat × Ent), r = none := ⟨_, rfl⟩
    rw [← hrr] at HCr
    have HRR := Lib.hid hrr
    clear HFr hr hrr HF HC
    go_enter Tryd.func6, Tryd.ntmps6
    go_wp2_with (first
      | (go_at_call 14; refine (HF1.out _ HB.out.bel).mono ?_; rintro e w2 ⟨rfl, hb⟩; have H2 := Lib.hid (HB.out.over hb); clear hb t0 t1 t2 t3 r0 r1 r2 r3 r4 r5 r6 r7; have t0 := H2.out.b7.read 0; have t1 := H2.out.b7.read 1; have t2 := H2.out.b7.read 2; have t3 := H2.out.b7.read 3; have r0 := H2.out.arr 0 (by decide); have r1 := H2.out.arr 1 (by decide); have r2 := H2.out.arr 2 (by decide); have r3 := H2.out.arr 3 (by decide); have r4 := H2.out.arr 4 (by decide); have r5 := H2.out.arr 5 (by decide); have r6 := H2.out.arr 6 (by decide); have r7 := H2.out.arr 7 (by decide))
      | (go_at_call 16; refine (HCr.out mode _ H2.out.bel).mono ?_; rintro e w3 ⟨rfl, hb⟩; have H3 := Lib.hid (H2.out.over hb); have H4 := Lib.hid (H3.out.over ((Below.refl _ w3).alloc (Nat.le_refl _) (.cells #[.int .u64 (A 0), .int .u64 (A 1), .int .u64 (A 2), .int .u64 (A 3), .int .u64 (A 4), .int .u64 (A 5), .int .u64 (A 6), .int .u64 (A 7)] 23))); have H4b := Lib.hid (Box.made w3 23 #[.int .u64 (A 0), .int .u64 (A 1), .int .u64 (A 2), .int .u64 (A 3), .int .u64 (A 4), .int .u64 (A 5), .int .u64 (A 6), .int .u64 (A 7)]); clear hb t0 t1 t2 t3 r0 r1 r2 r3 r4 r5 r6 r7; have r0 := H3.out.arr 0 (by decide); have r1 := H3.out.arr 1 (by decide); have r2 := H3.out.arr 2 (by decide); have r3 := H3.out.arr 3 (by decide); have r4 := H3.out.arr 4 (by decide); have r5 := H3.out.arr 5 (by decide); have r6 := H3.out.arr 6 (by decide); have r7 := H3.out.arr 7 (by decide)))
    clear r0 r1 r2 r3 r4 r5 r6 r7 o0 o1 o2 o3 hW0
    go_loopw [12, 13] (fun f i wr => f = .int .u64 c ∧ i = .int .i64 0 ∧ Bh w wr A mode kind at' z C B) (fun _ _ _ => 0)
    case atStart => exact ⟨rfl, rfl, H4.out⟩
    case round =>
      obtain ⟨rfl, rfl, hbs⟩ := hrel
      have HS := Lib.hid hbs
      clear hbs H4
      go_wp2
      refine act_genP ?_
      intro T hT
      refine wp_only (fun a' W' => ∃ U V M, a' = { tmps := (((((T.setIfInBounds 90 (.agg #[.int .u8 mode, .int .u8 kind, .int .u64 at', .int .i64 z])).setIfInBounds 91 (.agg #[.int .u8 mode, .int .u8 kind, .int .u64 at', .int .i64 z])).setIfInBounds 92 (.agg #[.int .u8 mode, .int .u8 kind, .int .u64 at', .int .i64 z])).setIfInBounds 16 (.pointer (some ⟨U, 0, none⟩))).setIfInBounds 17 (.pointer (some ⟨V, 0, none⟩))).setIfInBounds 18 (.pointer (some ⟨M, 0, none⟩)), defers := [] } ∧ Cp w W' A mode kind at' z C B U V M mode mode mode) ?_ ?_
      · subst hT
        refine wp_region_tree (fun W' => W'.cell? ⟨w.heap.size + 1 + 1, 0, none⟩ = some (.int .u8 mode) ∧ W'.cell? ⟨w.heap.size + 1 + 1, 1, none⟩ = some (.int .u8 kind) ∧ W'.cell? ⟨w.heap.size + 1 + 1, 2, none⟩ = some (.int .u64 at') ∧ W'.cell? ⟨w.heap.size + 1 + 1, 3, none⟩ = some (.int .i64 z)) (.e 0 (.e 0 (.e 0 (.f3 0 (.f2 0 (.l 0 (.l 0 (.l 0 (.l 0 .z)))) 1 (.l 0 (.l 0 (.l 0 (.l 0 .z))))) 1 (.f2 0 (.l 0 (.l 0 (.l 0 (.l 0 .z)))) 1 (.l 0 (.l 0 (.l 0 (.l 0 .z))))) 2 (.f2 0 (.l 0 (.l 0 (.l 0 (.l 0 .z)))) 1 (.l 0 (.l 0 (.l 0 (.l 0 .z))))))))) (by kernel_rfl) (by kernel_rfl) (by kernel_rfl) (by kernel_rfl) ?_
        have k1 : ∀ a : Array Value, Bh w (wr.alloc (.cells a 35)).drew A mode kind at' z C B := fun a => HS.out.over (((Below.refl _ _).alloc (Nat.le_refl _) _).drew)
        have k2 : ∀ a b : Array Value, Bh w ((wr.alloc (.cells a 35)).alloc (.cells b 35)).drew A mode kind at' z C B := fun a b => HS.out.over ((((Below.refl _ _).alloc (Nat.le_refl _) _).alloc (by simp) _).drew)
        have k3 : ∀ a b c : Array Value, Bh w (((wr.alloc (.cells a 35)).alloc (.cells b 35)).alloc (.cells c 35)).drew A mode kind at' z C B := fun a b c => HS.out.over (((((Below.refl _ _).alloc (Nat.le_refl _) _).alloc (by simp) _).alloc (by simp; omega) _).drew)
        have h1 := fun a => And.intro ((k1 a).b7.read 0) (And.intro ((k1 a).b7.read 1) (And.intro ((k1 a).b7.read 2) ((k1 a).b7.read 3)))
        have h2 := fun a b => And.intro ((k2 a b).b7.read 0) (And.intro ((k2 a b).b7.read 1) (And.intro ((k2 a b).b7.read 2) ((k2 a b).b7.read 3)))
        have h3 := fun a b c => And.intro ((k3 a b c).b7.read 0) (And.intro ((k3 a b c).b7.read 1) (And.intro ((k3 a b c).b7.read 2) ((k3 a b c).b7.read 3)))
        have hbh := k3 #[.int .u8 mode, .int .u8 kind, .int .u64 at', .int .i64 z] #[.int .u8 mode, .int .u8 kind, .int .u64 at', .int .i64 z] #[.int .u8 mode, .int .u8 kind, .int .u64 at', .int .i64 z]
        have hb1 : Box (((wr.alloc (.cells #[.int .u8 mode, .int .u8 kind, .int .u64 at', .int .i64 z] 35)).alloc (.cells #[.int .u8 mode, .int .u8 kind, .int .u64 at', .int .i64 z] 35)).alloc (.cells #[.int .u8 mode, .int .u8 kind, .int .u64 at', .int .i64 z] 35)).drew wr.heap.size 35 #[.int .u8 mode, .int .u8 kind, .int .u64 at', .int .i64 z] := ((Box.made wr 35 _).more _).more _
        have hb2 : Box (((wr.alloc (.cells #[.int .u8 mode, .int .u8 kind, .int .u64 at', .int .i64 z] 35)).alloc (.cells #[.int .u8 mode, .int .u8 kind, .int .u64 at', .int .i64 z] 35)).alloc (.cells #[.int .u8 mode, .int .u8 kind, .int .u64 at', .int .i64 z] 35)).drew (wr.heap.size + 1) 35 #[.int .u8 mode, .int .u8 kind, .int .u64 at', .int .i64 z] := (box2 wr _ 35 _).more _
        have hb3 : Box (((wr.alloc (.cells #[.int .u8 mode, .int .u8 kind, .int .u64 at', .int .i64 z] 35)).alloc (.cells #[.int .u8 mode, .int .u8 kind, .int .u64 at', .int .i64 z] 35)).alloc (.cells #[.int .u8 mode, .int .u8 kind, .int .u64 at', .int .i64 z] 35)).drew (wr.heap.size + 1 + 1) 35 #[.int .u8 mode, .int .u8 kind, .int .u64 at', .int .i64 z] := by
          have h := box2 (wr.alloc (.cells #[.int .u8 mode, .int .u8 kind, .int .u64 at', .int .i64 z] 35)) (.cells #[.int .u8 mode, .int .u8 kind, .int .u64 at', .int .i64 z] 35) 35 #[.int .u8 mode, .int .u8 kind, .int .u64 at', .int .i64 z]
          rw [World.size_alloc] at h
          exact h
        have HN : Hid (w.heap.size + 1 + 1 < wr.heap.size) := Lib.hid HS.out.b7.inHeap
        have hHeld := And.intro (HS.out.b7.drawn1.read 0) (And.intro (HS.out.b7.drawn1.read 1) (And.intro (HS.out.b7.drawn1.read 2) (HS.out.b7.drawn1.read 3)))
        clear k1 k2 k3
        repeat (refine mt_take0 (v := ?_) (by rfl) hHeld ?_ ?_; rotate_left 1; (focus (intro w hSw; (try dsimp only at hSw); obtain ⟨g0, g1, g2, g3⟩ := hSw; go_simp; (try with_reducible rfl); done)); (try simp only [Act.put, List.setIfInBounds_toArray, List.set_cons_zero, List.set_cons_succ, List.eraseIdx]))
        clear hHeld
        refine mt_f3 ?_ ?_ ?_
        · refine up_of rfl (by rfl) (fun K hK => ?_)
          go_simp
          refine hK.out _ _ (h1 _) ?_
          clear hK K
          (try simp only [Act.put, List.setIfInBounds_toArray, List.set_cons_zero, List.set_cons_succ, List.eraseIdx])
          refine mt_f2 ?_ ?_
          · refine up_of rfl (by rfl) (fun K hK => ?_)
            go_simp
            refine hK.out _ _ (h2 _ _) ?_
            clear hK K
            (try simp only [Act.put, List.setIfInBounds_toArray, List.set_cons_zero, List.set_cons_succ, List.eraseIdx])
            refine mt_l (up_of rfl (by rfl) (fun K hK => ?_))
            go_simp
            refine hK.out _ _ (h3 _ _ _) ?_
            clear hK K
            (try simp only [Act.put, List.setIfInBounds_toArray, List.set_cons_zero, List.set_cons_succ, List.eraseIdx])
            refine mt_l (up_of rfl (by rfl) (fun K hK => ?_))
            go_simp
            refine hK.out _ _ (h3 _ _ _) ?_
            clear hK K
            (try simp only [Act.put, List.setIfInBounds_toArray, List.set_cons_zero, List.set_cons_succ, List.eraseIdx])
            refine mt_l (up_of rfl (by rfl) (fun K hK => ?_))
            go_simp
            refine hK.out _ _ (h3 _ _ _) ?_
            clear hK K
            (try simp only [Act.put, List.setIfInBounds_toArray, List.set_cons_zero, List.set_cons_succ, List.eraseIdx])
            refine mt_l (up_of rfl (by rfl) (fun K hK => ?_))
            go_simp
            refine hK.out _ _ (h3 _ _ _) ?_
            clear hK K
            (try simp only [Act.put, List.setIfInBounds_toArray, List.set_cons_zero, List.set_cons_succ, List.eraseIdx])
            refine mt_calm ?_
            exact ⟨wr.heap.size, wr.heap.size + 1, wr.heap.size + 1 + 1, rfl, ⟨hbh, hb1, hb2, hb3, (by omega), (by omega), (by omega), (by have := HN.out; omega), (by have := HN.out; omega), (by have := HN.out; omega)⟩⟩
          · refine up_of rfl (by rfl) (fun K hK => ?_)
            go_simp
            refine hK.out _ _ (h2 _ _) ?_
            clear hK K
            (try simp only [Act.put, List.setIfInBounds_toArray, List.set_cons_zero, List.set_cons_succ, List.eraseIdx])
            refine mt_l (up_of rfl (by rfl) (fun K hK => ?_))
            go_simp
            refine hK.out _ _ (h3 _ _ _) ?_
            clear hK K
            (try simp only [Act.put, List.setIfInBounds_toArray, List.set_cons_zero, List.set_cons_succ, List.eraseIdx])
            refine mt_l (up_of rfl (by rfl) (fun K hK => ?_))
            go_simp
            refine hK.out _ _ (h3 _ _ _) ?_
            clear hK K
            (try simp only [Act.put, List.setIfInBounds_toArray, List.set_cons_zero, List.set_cons_succ, List.eraseIdx])
            refine mt_l (up_of rfl (by rfl) (fun K hK => ?_))
            go_simp
            refine hK.out _ _ (h3 _ _ _) ?_
            clear hK K
            (try simp only [Act.put, List.setIfInBounds_toArray, List.set_cons_zero, List.set_cons_succ, List.eraseIdx])
            refine mt_l (up_of rfl (by rfl) (fun K hK => ?_))
            go_simp
            refine hK.out _ _ (h3 _ _ _) ?_
            clear hK K
            (try simp only [Act.put, List.setIfInBounds_toArray, List.set_cons_zero, List.set_cons_succ, List.eraseIdx])
            refine mt_calm ?_
            exact ⟨wr.heap.size, wr.heap.size + 1 + 1, wr.heap.size + 1, rfl, ⟨hbh, hb1, hb3, hb2, (by omega), (by omega), (by omega), (by have := HN.out; omega), (by have := HN.out; omega), (by have := HN.out; omega)⟩⟩
        · refine up_of rfl (by rfl) (fun K hK => ?_)
          go_simp
          refine hK.out _ _ (h1 _) ?_
          clear hK K
          (try simp only [Act.put, List.setIfInBounds_toArray, List.set_cons_zero, List.set_cons_succ, List.eraseIdx])
          refine mt_f2 ?_ ?_
          · refine up_of rfl (by rfl) (fun K hK => ?_)
            go_simp
            refine hK.out _ _ (h2 _ _) ?_
            clear hK K
            (try simp only [Act.put, List.setIfInBounds_toArray, List.set_cons_zero, List.set_cons_succ, List.eraseIdx])
            refine mt_l (up_of rfl (by rfl) (fun K hK => ?_))
            go_simp
            refine hK.out _ _ (h3 _ _ _) ?_
            clear hK K
            (try simp only [Act.put, List.setIfInBounds_toArray, List.set_cons_zero, List.set_cons_succ, List.eraseIdx])
            refine mt_l (up_of rfl (by rfl) (fun K hK => ?_))
            go_simp
            refine hK.out _ _ (h3 _ _ _) ?_
            clear hK K
            (try simp only [Act.put, List.setIfInBounds_toArray, List.set_cons_zero, List.set_cons_succ, List.eraseIdx])
            refine mt_l (up_of rfl (by rfl) (fun K hK => ?_))
            go_simp
            refine hK.out _ _ (h3 _ _ _) ?_
            clear hK K
            (try simp only [Act.put, List.setIfInBounds_toArray, List.set_cons_zero, List.set_cons_succ, List.eraseIdx])
            refine mt_l (up_of rfl (by rfl) (fun K hK => ?_))
            go_simp
            refine hK.out _ _ (h3 _ _ _) ?_
            clear hK K
            (try simp only [Act.put, List.setIfInBounds_toArray, List.set_cons_zero, List.set_cons_succ, List.eraseIdx])
            refine mt_calm ?_
            exact ⟨wr.heap.size + 1, wr.heap.size, wr.heap.size + 1 + 1, rfl, ⟨hbh, hb2, hb1, hb3, (by omega), (by omega), (by omega), (by have := HN.out; omega), (by have := HN.out; omega), (by have := HN.out; omega)⟩⟩
          · refine up_of rfl (by rfl) (fun K hK => ?_)
            go_simp
            refine hK.out _ _ (h2 _ _) ?_
            clear hK K
            (try simp only [Act.put, List.setIfInBounds_toArray, List.set_cons_zero, List.set_cons_succ, List.eraseIdx])
            refine mt_l (up_of rfl (by rfl) (fun K hK => ?_))
            go_simp
            refine hK.out _ _ (h3 _ _ _) ?_
            clear hK K
            (try simp only [Act.put, List.setIfInBounds_toArray, List.set_cons_zero, List.set_cons_succ, List.eraseIdx])
            refine mt_l (up_of rfl (by rfl) (fun K hK => ?_))
            go_simp
            refine hK.out _ _ (h3 _ _ _) ?_
            clear hK K
            (try simp only [Act.put, List.setIfInBounds_toArray, List.set_cons_zero, List.set_cons_succ, List.eraseIdx])
            refine mt_l (up_of rfl (by rfl) (fun K hK => ?_))
            go_simp
            refine hK.out _ _ (h3 _ _ _) ?_
            clear hK K
            (try simp only [Act.put, List.setIfInBounds_toArray, List.set_cons_zero, List.set_cons_succ, List.eraseIdx])
            refine mt_l (up_of rfl (by rfl) (fun K hK => ?_))
            go_simp
            refine hK.out _ _ (h3 _ _ _) ?_
            clear hK K
            (try simp only [Act.put, List.setIfInBounds_toArray, List.set_cons_zero, List.set_cons_succ, List.eraseIdx])
            refine mt_calm ?_
            exact ⟨wr.heap.size + 1 + 1, wr.heap.size, wr.heap.size + 1, rfl, ⟨hbh, hb3, hb1, hb2, (by omega), (by omega), (by omega), (by have := HN.out; omega), (by have := HN.out; omega), (by have := HN.out; omega)⟩⟩
        · refine up_of rfl (by rfl) (fun K hK => ?_)
          go_simp
          refine hK.out _ _ (h1 _) ?_
          clear hK K
          (try simp only [Act.put, List.setIfInBounds_toArray, List.set_cons_zero, List.set_cons_succ, List.eraseIdx])
          refine mt_f2 ?_ ?_
          · refine up_of rfl (by rfl) (fun K hK => ?_)
            go_simp
            refine hK.out _ _ (h2 _ _) ?_
            clear hK K
            (try simp only [Act.put, List.setIfInBounds_toArray, List.set_cons_zero, List.set_cons_succ, List.eraseIdx])
            refine mt_l (up_of rfl (by rfl) (fun K hK => ?_))
            go_simp
            refine hK.out _ _ (h3 _ _ _) ?_
            clear hK K
            (try simp only [Act.put, List.setIfInBounds_toArray, List.set_cons_zero, List.set_cons_succ, List.eraseIdx])
            refine mt_l (up_of rfl (by rfl) (fun K hK => ?_))
            go_simp
            refine hK.out _ _ (h3 _ _ _) ?_
            clear hK K
            (try simp only [Act.put, List.setIfInBounds_toArray, List.set_cons_zero, List.set_cons_succ, List.eraseIdx])
            refine mt_l (up_of rfl (by rfl) (fun K hK => ?_))
            go_simp
            refine hK.out _ _ (h3 _ _ _) ?_
            clear hK K
            (try simp only [Act.put, List.setIfInBounds_toArray, List.set_cons_zero, List.set_cons_succ, List.eraseIdx])
            refine mt_l (up_of rfl (by rfl) (fun K hK => ?_))
            go_simp
            refine hK.out _ _ (h3 _ _ _) ?_
            clear hK K
            (try simp only [Act.put, List.setIfInBounds_toArray, List.set_cons_zero, List.set_cons_succ, List.eraseIdx])
            refine mt_calm ?_
            exact ⟨wr.heap.size + 1, wr.heap.size + 1 + 1, wr.heap.size, rfl, ⟨hbh, hb2, hb3, hb1, (by omega), (by omega), (by omega), (by have := HN.out; omega), (by have := HN.out; omega), (by have := HN.out; omega)⟩⟩
          · refine up_of rfl (by rfl) (fun K hK => ?_)
            go_simp
            refine hK.out _ _ (h2 _ _) ?_
            clear hK K
            (try simp only [Act.put, List.setIfInBounds_toArray, List.set_cons_zero, List.set_cons_succ, List.eraseIdx])
            refine mt_l (up_of rfl (by rfl) (fun K hK => ?_))
            go_simp
            refine hK.out _ _ (h3 _ _ _) ?_
            clear hK K
            (try simp only [Act.put, List.setIfInBounds_toArray, List.set_cons_zero, List.set_cons_succ, List.eraseIdx])
            refine mt_l (up_of rfl (by rfl) (fun K hK => ?_))
            go_simp
            refine hK.out _ _ (h3 _ _ _) ?_
            clear hK K
            (try simp only [Act.put, List.setIfInBounds_toArray, List.set_cons_zero, List.set_cons_succ, List.eraseIdx])
            refine mt_l (up_of rfl (by rfl) (fun K hK => ?_))
            go_simp
            refine hK.out _ _ (h3 _ _ _) ?_
            clear hK K
            (try simp only [Act.put, List.setIfInBounds_toArray, List.set_cons_zero, List.set_cons_succ, List.eraseIdx])
            refine mt_l (up_of rfl (by rfl) (fun K hK => ?_))
            go_simp
            refine hK.out _ _ (h3 _ _ _) ?_
            clear hK K
            (try simp only [Act.put, List.setIfInBounds_toArray, List.set_cons_zero, List.set_cons_succ, List.eraseIdx])
            refine mt_calm ?_
            exact ⟨wr.heap.size + 1 + 1, wr.heap.size + 1, wr.heap.size, rfl, ⟨hbh, hb3, hb2, hb1, (by omega), (by omega), (by omega), (by have := HN.out; omega), (by have := HN.out; omega), (by have := HN.out; omega)⟩⟩
      · rintro a' W7 ⟨U, V, M, rfl, hcp⟩
        subst hT
        simp only [List.setIfInBounds_toArray, List.set_cons_zero, List.set_cons_succ]
        have ne1 : ¬ (U = V) := hcp.uv
        have ne2 : ¬ (V = U) := fun e => hcp.uv e.symm
        have ne3 : ¬ (U = M) := hcp.um
        have ne4 : ¬ (M = U) := fun e => hcp.um e.symm
        have ne5 : ¬ (V = M) := hcp.vm
        have ne6 : ¬ (M = V) := fun e => hcp.vm e.symm
        have eu := hcp.bu.read 0
        have fu := hcp.bu.warm 0
        have ev := hcp.bv.read 0
        have fv' := hcp.bv.warm 0
        have em := hcp.bm.read 0
        have fm' := hcp.bm.warm 0
        have HCP : Hid (Cp w (((W7.setCell ⟨U, 0, none⟩ (.int .u8 0)).setCell ⟨V, 0, none⟩ (.int .u8 1)).setCell ⟨M, 0, none⟩ (.int .u8 3)) A mode kind at' z C B U V M 0 1 3) := Lib.hid
          ⟨((hcp.bh.put (p := ⟨U, 0, none⟩) hcp.hu _).put (p := ⟨V, 0, none⟩) hcp.hv _).put (p := ⟨M, 0, none⟩) hcp.hm _,
           box_eq (((hcp.bu.put 0 _).putFar (p := ⟨V, 0, none⟩) hcp.uv _).putFar (p := ⟨M, 0, none⟩) hcp.um _) rfl,
           box_eq (((hcp.bv.putFar (p := ⟨U, 0, none⟩) hcp.uv.symm _).put 0 _).putFar (p := ⟨M, 0, none⟩) hcp.vm _) rfl,
           box_eq (((hcp.bm.putFar (p := ⟨U, 0, none⟩) hcp.um.symm _).putFar (p := ⟨V, 0, none⟩) hcp.vm.symm _).put 0 _) rfl,
           hcp.uv, hcp.um, hcp.vm, hcp.hu, hcp.hv, hcp.hm⟩
        clear hcp
        go_wp2
        generalize ((W7.setCell ⟨U, 0, none⟩ (.int .u8 0)).setCell ⟨V, 0, none⟩ (.int .u8 1)).setCell ⟨M, 0, none⟩ (.int .u8 3) = w8 at HCP ⊢
        clear eu fu ev fv' em fm' ne1 ne2 ne3 ne4 ne5 ne6
        refine wp_region_calm (Hm w A kind at' z U M) (.e 0 :: .e 0 :: .e 0 :: .e 1 :: .e 1 :: .e 1 :: .l 0 :: .l 0 :: .e 0 :: .e 0 :: []) (by kernel_rfl) (by kernel_rfl) (by kernel_rfl) (by kernel_rfl) ?_
        have C0 := Lib.hid (HCP.out.over (Below.refl _ _).drew)
        have hHeld := C0.out.held
        repeat (first
          | (refine mv_take0 (v := ?_) (by rfl) hHeld ?_ ?_; rotate_left 1; (focus (intro w hSw; (try dsimp only at hSw); obtain ⟨g0, g1, g2, g3, g4, g5, g6, g7, g8, g9, g10, g11, g12, g13, g14, g15⟩ := hSw; go_simp; (try with_reducible rfl); done)); (try simp only [Act.put, List.setIfInBounds_toArray, List.set_cons_zero, List.set_cons_succ]))
          | (refine mv_take1 (v := ?_) (by rfl) hHeld ?_ ?_; rotate_left 1; (focus (intro w hSw; (try dsimp only at hSw); obtain ⟨g0, g1, g2, g3, g4, g5, g6, g7, g8, g9, g10, g11, g12, g13, g14, g15⟩ := hSw; go_simp; (try with_reducible rfl); done)); (try simp only [Act.put, List.setIfInBounds_toArray, List.set_cons_zero, List.set_cons_succ])))
        refine mv_loud0 (by rfl) (fun K hK => ?_)
        go_simp
        go_at_call 16
        refine (HCr.out 0 _ C0.out.bh.bel).mono ?_
        rintro e w9 ⟨rfl, hb⟩
        have C1 := Lib.hid (C0.out.over hb)
        clear hb hHeld
        have hHeld := C1.out.held
        refine hK.out _ _ hHeld ?_
        clear hK K
        (try simp only [Act.put, List.setIfInBounds_toArray, List.set_cons_zero, List.set_cons_succ])
        refine mv_loud0 (by rfl) (fun K hK => ?_)
        go_simp
        go_at_call 16
        refine (HCr.out 3 _ C1.out.bh.bel).mono ?_
        rintro e w10 ⟨rfl, hb⟩
        have C2 := Lib.hid (C1.out.over hb)
        clear hb hHeld
        have hHeld := C2.out.held
        refine hK.out _ _ hHeld ?_
        clear hK K
        (try simp only [Act.put, List.setIfInBounds_toArray, List.set_cons_zero, List.set_cons_succ])
        repeat (refine mv_take0 (v := ?_) (by rfl) hHeld ?_ ?_; rotate_left 1; (focus (intro w hSw; (try dsimp only at hSw); obtain ⟨g0, g1, g2, g3, g4, g5, g6, g7, g8, g9, g10, g11, g12, g13, g14, g15⟩ := hSw; go_simp; (try with_reducible rfl); done)); (try simp only [Act.put, List.setIfInBounds_toArray, List.set_cons_zero, List.set_cons_succ]))
        refine mv_calm ?_
        clear hHeld HCP C0 C1
        have hum : (all && allowed 0 kind at' hi r) = true → (all && allowed 3 kind at' hi r) = true := fun h => by
          rw [Bool.and_eq_true] at h ⊢
          exact ⟨h.1, allowed_up h.2⟩
        have HCs := Lib.hid (fun wx hb => HCr.out 1 wx hb)
        rw [show (all && allowed 1 kind at' hi r) = (all && allowed 0 kind at' hi r) by rw [allowed_su]] at HCs
        have hfin : (all && allowed 3 kind at' hi r) = false → all = false := fun h => by
          cases all
          · rfl
          · rw [HRR.out] at h
            simp [allowed] at h
        generalize (all && allowed 0 kind at' hi r) = u at hum HCs ⊢
        generalize (all && allowed 3 kind at' hi r) = m0 at hum hfin ⊢
        clear HCr
        have p0 : w10.cell? ⟨w.heap.size, 0, none⟩ = some (.int .u64 (A 0)) := C2.out.bh.arr 0 (by decide)
        have p1 : w10.cell? ⟨w.heap.size, 1, none⟩ = some (.int .u64 (A 1)) := C2.out.bh.arr 1 (by decide)
        have p2 : w10.cell? ⟨w.heap.size, 2, none⟩ = some (.int .u64 (A 2)) := C2.out.bh.arr 2 (by decide)
        have p3 : w10.cell? ⟨w.heap.size, 3, none⟩ = some (.int .u64 (A 3)) := C2.out.bh.arr 3 (by decide)
        have p4 : w10.cell? ⟨w.heap.size, 4, none⟩ = some (.int .u64 (A 4)) := C2.out.bh.arr 4 (by decide)
        have p5 : w10.cell? ⟨w.heap.size, 5, none⟩ = some (.int .u64 (A 5)) := C2.out.bh.arr 5 (by decide)
        have p6 : w10.cell? ⟨w.heap.size, 6, none⟩ = some (.int .u64 (A 6)) := C2.out.bh.arr 6 (by decide)
        have p7 : w10.cell? ⟨w.heap.size, 7, none⟩ = some (.int .u64 (A 7)) := C2.out.bh.arr 7 (by decide)
        have s0 : w10.cell? ⟨V, 0, none⟩ = some (.int .u8 1) := C2.out.bv.read 0
        have s1 : w10.cell? ⟨V, 1, none⟩ = some (.int .u8 kind) := C2.out.bv.read 1
        have s2 : w10.cell? ⟨V, 2, none⟩ = some (.int .u64 at') := C2.out.bv.read 2
        have s3 : w10.cell? ⟨V, 3, none⟩ = some (.int .i64 z) := C2.out.bv.read 3
        have a0 : (0 : Int) ≤ (at' : Int) := Int.natCast_nonneg _
        have a1 : (at' : Int) < 18446744073709551616 := by have := HZ.out.2.2; omega
        have z0 := HZ.out.1
        have z1 := HZ.out.2.1
        by_cases hz : z < 1
        · skip
          cases m0
          · cases u
            · have hal := hfin rfl
              subst hal
              exfalso
              have h1 := HL.out
              have h2 : moreOf z = 0 := by unfold moreOf; omega
              rw [h2] at h1
              have h3 : decide (at' + 0 < 18446744073709551616) = true := decide_eq_true (by have := HZ.out.2.2; omega)
              rw [h3] at h1
              cases h1
            · exact absurd (hum rfl) (by simp)
          · clear hfin hum
            cases u
            · skip
              go_wp2_with (first
                | (go_at_call 10; have Hx := C4; refine (HW.out _ C4.out.bh.bel).mono ?_; rintro e w12 ⟨rfl, hb⟩; have H12 := Lib.hid (C4.out.bh.bel.trans (hb.mono C4.out.bh.bel.size)); clear hb)
                | (go_at_call 16; refine (HCs.out _ C2.out.bh.bel).mono ?_; rintro e w11 ⟨rfl, hb⟩; have C4 := Lib.hid (C2.out.over hb); clear hb p0 p1 p2 p3 p4 p5 p6 p7 s0 s1 s2 s3; have q2 : w11.cell? ⟨w.heap.size + 1 + 1, 2, none⟩ = some (.int .u64 at') := C4.out.bh.b7.read 2; have q3 : w11.cell? ⟨w.heap.size + 1 + 1, 3, none⟩ = some (.int .i64 z) := C4.out.bh.b7.read 3))
              go_ret
              exact ⟨rfl, H12.out⟩
            · skip
              go_wp2_with (first
                | (go_at_call 10; have Hx := C4; refine (HW.out _ C4.out.bh.bel).mono ?_; rintro e w12 ⟨rfl, hb⟩; have H12 := Lib.hid (C4.out.bh.bel.trans (hb.mono C4.out.bh.bel.size)); clear hb)
                | (go_at_call 16; refine (HCs.out _ C2.out.bh.bel).mono ?_; rintro e w11 ⟨rfl, hb⟩; have C4 := Lib.hid (C2.out.over hb); clear hb p0 p1 p2 p3 p4 p5 p6 p7 s0 s1 s2 s3; have q2 : w11.cell? ⟨w.heap.size + 1 + 1, 2, none⟩ = some (.int .u64 at') := C4.out.bh.b7.read 2; have q3 : w11.cell? ⟨w.heap.size + 1 + 1, 3, none⟩ = some (.int .i64 z) := C4.out.bh.b7.read 3))
              go_ret
              exact ⟨rfl, H12.out⟩
        · skip
          cases m0
          · cases u
            · have hal := hfin rfl
              subst hal
              have h1 := HL.out
              have h2 : ¬ (at' + moreOf z < 18446744073709551616) := of_decide_eq_false h1.symm
              have h3 : (18446744073709551616 : Int) ≤ (at' : Int) + (z - 1) := by unfold moreOf at h2; omega
              have y1 : IntKind.u64.wrap ((at' : Int) + (z - 1)) = (at' : Int) + (z - 1) - 18446744073709551616 := by show ((at' : Int) + (z - 1)) % 18446744073709551616 = _; omega
              have y2 : decide ((at' : Int) + (z - 1) - 18446744073709551616 < (at' : Int)) = true := decide_eq_true (by omega)
              clear h1 h2 h3 hfin hum
              go_wp2_with (first
                | (go_at_call 10; have Hx := C4; refine (HW.out _ C4.out.bh.bel).mono ?_; rintro e w12 ⟨rfl, hb⟩; have H12 := Lib.hid (C4.out.bh.bel.trans (hb.mono C4.out.bh.bel.size)); clear hb)
                | (go_at_call 16; refine (HCs.out _ C2.out.bh.bel).mono ?_; rintro e w11 ⟨rfl, hb⟩; have C4 := Lib.hid (C2.out.over hb); clear hb p0 p1 p2 p3 p4 p5 p6 p7 s0 s1 s2 s3; have q2 : w11.cell? ⟨w.heap.size + 1 + 1, 2, none⟩ = some (.int .u64 at') := C4.out.bh.b7.read 2; have q3 : w11.cell? ⟨w.heap.size + 1 + 1, 3, none⟩ = some (.int .i64 z) := C4.out.bh.b7.read 3))
              go_ret
              exact ⟨rfl, H12.out⟩
            · exact absurd (hum rfl) (by simp)
          · clear hfin hum
            cases u
            · skip
              go_wp2_with (first
                | (go_at_call 10; have Hx := C4; refine (HW.out _ C4.out.bh.bel).mono ?_; rintro e w12 ⟨rfl, hb⟩; have H12 := Lib.hid (C4.out.bh.bel.trans (hb.mono C4.out.bh.bel.size)); clear hb)
                | (go_at_call 16; refine (HCs.out _ C2.out.bh.bel).mono ?_; rintro e w11 ⟨rfl, hb⟩; have C4 := Lib.hid (C2.out.over hb); clear hb p0 p1 p2 p3 p4 p5 p6 p7 s0 s1 s2 s3; have q2 : w11.cell? ⟨w.heap.size + 1 + 1, 2, none⟩ = some (.int .u64 at') := C4.out.bh.b7.read 2; have q3 : w11.cell? ⟨w.heap.size + 1 + 1, 3, none⟩ = some (.int .i64 z) := C4.out.bh.b7.read 3))
              go_ret
              exact ⟨rfl, H12.out⟩
            · skip
              go_wp2_with (first
                | (go_at_call 10; have Hx := C4; refine (HW.out _ C4.out.bh.bel).mono ?_; rintro e w12 ⟨rfl, hb⟩; have H12 := Lib.hid (C4.out.bh.bel.trans (hb.mono C4.out.bh.bel.size)); clear hb)
                | (go_at_call 16; refine (HCs.out _ C2.out.bh.bel).mono ?_; rintro e w11 ⟨rfl, hb⟩; have C4 := Lib.hid (C2.out.over hb); clear hb p0 p1 p2 p3 p4 p5 p6 p7 s0 s1 s2 s3; have q2 : w11.cell? ⟨w.heap.size + 1 + 1, 2, none⟩ = some (.int .u64 at') := C4.out.bh.b7.read 2; have q3 : w11.cell? ⟨w.heap.size + 1 + 1, 3, none⟩ = some (.int .i64 z) := C4.out.bh.b7.read 3))
              go_ret
              exact ⟨rfl, H12.out⟩
  | some re =>
    obtain ⟨i0, x⟩ := re
    have hi8 : i0 < 8 := by have := (srch_some hr).2.1; omega
    have hE := (srch_some hr).2.2.1
    have hxb : x.b = cfgB c i0 := (entOf_b hE).1
    have HQB : Hid (128 ≤ x.b → (c : Int) / 2 ^ (8 * i0 + 7) % 2 = 1) := Lib.hid (fun h => by
      rw [hxb] at h
      unfold cfgB at h
      have e : c / 2 ^ (8 * i0 + 7) = c / 2 ^ (8 * i0) / 128 := by rw [Nat.pow_add, ← Nat.div_div_eq_div_mul]
      have h2 : c / 2 ^ (8 * i0 + 7) % 2 = 1 := by rw [e]; omega
      have h3 : ((c / 2 ^ (8 * i0 + 7) % 2 : Nat) : Int) = 1 := by rw [h2]; rfl
      rw [Int.natCast_emod, Int.natCast_ediv, Int.natCast_pow] at h3
      exact h3)
    have hr2 : ∀ (F : Nat) (D : Nat → Nat), (∀ j, j ≤ i0 → cfgB F j = cfgB c j) → (∀ j, j ≤ i0 → D j = A j) → fst8 (entOf F D) at' hi = some (i0, x) := fun F D h1 h2 => fst8_agree hr fun j hj => entOf_agree h1 h2 j hj
    obtain ⟨r, hrr⟩ : ∃ r : Option (Nat × Ent), r = some (i0, x) := ⟨_, rfl⟩
    rw [← hrr] at hr2
    obtain ⟨wh, hwh⟩ : ∃ wh, wh = whl r all at' hi := ⟨_, rfl⟩
    have hidx : idx r = (i0 : Nat) := by rw [hrr]; rfl
    have HR2 := Lib.hid hr2
    have HFr : Hid (∀ (F : Nat) (D : Nat → Nat), F < 18446744073709551616 → (∀ k, D k < 18446744073709551616) → (∀ j, j ≤ i0 → cfgB F j = cfgB c j) → (∀ j, j ≤ i0 → D j = A j) → ∀ wx, Below w.heap.size w wx → Calls Tryd.prog 14 #[.int .u64 F, .agg (arr D), acc mode kind at' z] wx fun e w' => e = .returned (.tuple #[.int .i64 (i0 : Nat), .bool wh]) ∧ Below wx.heap.size wx w') := Lib.hid (fun F D h1 h2 h3 h4 wx hb => by
      have h := HF.out F D h1 h2 wx hb
      rw [HR2.out F D h3 h4, hidx, ← hwh] at h
      exact h)
    have HCa : Hid (∀ (F : Nat) (D : Nat → Nat) (m : Nat), F < 18446744073709551616 → (∀ k, D k < 18446744073709551616) → (∀ j, j ≤ i0 → cfgB F j = cfgB c j) → (∀ j, j ≤ i0 → D j = A j) → ∀ wx, Below w.heap.size w wx → Calls Tryd.prog 16 #[.int .u64 F, .agg (arr D), acc m kind at' z] wx fun e w' => e = .returned (.bool (all && allowed m kind at' hi r)) ∧ Below wx.heap.size wx w') := Lib.hid (fun F D m h1 h2 h3 h4 wx hb => by
      have h := HC.out F D m h1 h2 wx hb
      rw [HR2.out F D h3 h4] at h
      exact h)
    have HF1 := Lib.hid (fun wx hb => HFr.out c A HP.out.1 HP.out.2.1 (fun _ _ => rfl) (fun _ _ => rfl) wx hb)
    have HCr := Lib.hid (fun m wx hb => HCa.out c A m HP.out.1 HP.out.2.1 (fun _ _ => rfl) (fun _ _ => rfl) wx hb)
    have HRR := Lib.hid hrr
    have HWH := Lib.hid hwh
    have i00 : (0 : Int) ≤ (i0 : Int) := Int.natCast_nonneg _
    have i08 : (i0 : Int) < 8 := by omega
    have hto2 : (8 * (i0 : Int) + 7).toNat = 8 * i0 + 7 := by omega
    have hwi : IntKind.i64.wrap (8 * (i0 : Int)) = 8 * (i0 : Int) := IntWalk.i64_in _ (by omega)
    have hwj : IntKind.i64.wrap (8 * (i0 : Int) + 7) = 8 * (i0 : Int) + 7 := IntWalk.i64_in _ (by omega)
    clear hr hr2 hrr hwh hidx HF HC hE hxb HR2
    go_enter Tryd.func6, Tryd.ntmps6
    go_wp2_with (first
      | (go_at_call 14; refine (HF1.out _ HB.out.bel).mono ?_; rintro e w2 ⟨rfl, hb⟩; have H2 := Lib.hid (HB.out.over hb); clear hb t0 t1 t2 t3 r0 r1 r2 r3 r4 r5 r6 r7; have t0 := H2.out.b7.read 0; have t1 := H2.out.b7.read 1; have t2 := H2.out.b7.read 2; have t3 := H2.out.b7.read 3; have r0 := H2.out.arr 0 (by decide); have r1 := H2.out.arr 1 (by decide); have r2 := H2.out.arr 2 (by decide); have r3 := H2.out.arr 3 (by decide); have r4 := H2.out.arr 4 (by decide); have r5 := H2.out.arr 5 (by decide); have r6 := H2.out.arr 6 (by decide); have r7 := H2.out.arr 7 (by decide))
      | (go_at_call 16; refine (HCr.out mode _ H2.out.bel).mono ?_; rintro e w3 ⟨rfl, hb⟩; have H3 := Lib.hid (H2.out.over hb); have H4 := Lib.hid (H3.out.over ((Below.refl _ w3).alloc (Nat.le_refl _) (.cells #[.int .u64 (A 0), .int .u64 (A 1), .int .u64 (A 2), .int .u64 (A 3), .int .u64 (A 4), .int .u64 (A 5), .int .u64 (A 6), .int .u64 (A 7)] 23))); have H4b := Lib.hid (Box.made w3 23 #[.int .u64 (A 0), .int .u64 (A 1), .int .u64 (A 2), .int .u64 (A 3), .int .u64 (A 4), .int .u64 (A 5), .int .u64 (A 6), .int .u64 (A 7)]); clear hb t0 t1 t2 t3 r0 r1 r2 r3 r4 r5 r6 r7; have r0 := H3.out.arr 0 (by decide); have r1 := H3.out.arr 1 (by decide); have r2 := H3.out.arr 2 (by decide); have r3 := H3.out.arr 3 (by decide); have r4 := H3.out.arr 4 (by decide); have r5 := H3.out.arr 5 (by decide); have r6 := H3.out.arr 6 (by decide); have r7 := H3.out.arr 7 (by decide)))
    clear r0 r1 r2 r3 r4 r5 r6 r7 o0 o1 o2 o3 hW0
    have HN3 : Hid (w.heap.size + 1 + 1 < w3.heap.size) := Lib.hid H3.out.b7.inHeap
    go_loopw [12, 13] (fun f i wr => ∃ (k F : Nat) (D : Nat → Nat), k ≤ 8 ∧ i0 < k ∧ i = .int .i64 k ∧ f = .int .u64 F ∧ F < 18446744073709551616 ∧ (∀ j, j ≤ i0 → cfgB F j = cfgB c j) ∧ (∀ j, j ≤ i0 → D j = A j) ∧ (∀ j, D j < 18446744073709551616) ∧ Bh w wr A mode kind at' z C B ∧ Box wr w3.heap.size 23 (arr D)) (fun _ i _ => 8 - (intOf i).toNat)
    case atStart => exact ⟨i0 + 1, c, A, by omega, by omega, val_eq (by omega), rfl, HP.out.1, fun _ _ => rfl, fun _ _ => rfl, HP.out.2.1, H4.out, H4b.out⟩
    case round =>
      obtain ⟨k, F, D, hk, hik, rfl, rfl, hF, hFc, hDA, hDl, hbs, hbn⟩ := hrel
      have k1 : (0 : Int) ≤ (k : Int) := Int.natCast_nonneg _
      have HS0 := Lib.hid (And.intro hbs hbn)
      have HI := Lib.hid (And.intro hF (And.intro hFc (And.intro hDA (And.intro hDl hik))))
      have hf1 : (F : Int) < 18446744073709551616 := by omega
      by_cases hlt : k < 8
      · have k2 : (k : Int) < 8 := by omega
        have ob : wr.cell? ⟨w.heap.size + 1, 5 + k, none⟩ = some (.int .u64 (B k)) := (hbs.b5.read (5 + k)).trans (oth_at mode kind at' z C B k hlt)
        have od : wr.cell? ⟨w3.heap.size, k, none⟩ = some (.int .u64 (D k)) := (hbn.read k).trans (arr_at D k hlt)
        have fd := hbn.warm k
        have HK := Lib.hid hlt
        have HS1 : Hid (Bh w (wr.setCell ⟨w3.heap.size, k, none⟩ (.int .u64 (B k))) A mode kind at' z C B ∧ Box (wr.setCell ⟨w3.heap.size, k, none⟩ (.int .u64 (B k))) w3.heap.size 23 (arr (updA D k (B k)))) := Lib.hid ⟨hbs.put (p := ⟨w3.heap.size, k, none⟩) HN3.out _, box_eq (hbn.put k _) (arr_set D (B k) k hlt)⟩
        have hw8 : IntKind.i64.wrap (8 * (k : Int)) = 8 * (k : Int) := IntWalk.i64_in _ (by omega)
        have hp8 : (0 : Int) ≤ 8 * (k : Int) := by omega
        have hto : (8 * (k : Int)).toNat = 8 * k := by omega
        have hmin : min (8 * k) 64 = 8 * k := by omega
        have hmk := mkB_lt hlt
        have hsh : IntKind.u64.wrap (255 * 2 ^ (8 * k)) = ((mkB k : Nat) : Int) := by
          have e : (255 * 2 ^ (8 * k) : Int) = ((mkB k : Nat) : Int) := by unfold mkB; rw [Int.natCast_mul, Int.natCast_pow]; rfl
          rw [e]
          show ((mkB k : Nat) : Int) % 18446744073709551616 = _
          omega
        have e1 : bits .andNot .u64 (F : Int) ((mkB k : Nat) : Int) = ((fa F k : Nat) : Int) := andNot_eq F (mkB k)
        have e2 : bits .and .u64 (C : Int) ((mkB k : Nat) : Int) = ((cb C k : Nat) : Int) := and_eq C (mkB k)
        have e3 : bits .or .u64 ((fa F k : Nat) : Int) ((cb C k : Nat) : Int) = ((nextF F C k : Nat) : Int) := or_eq (fa F k) (cb C k)
        have HNF := Lib.hid (And.intro (nextF_lt F C k) (fun j (hj : j < k) => nextF_byte (F := F) (C := C) hlt hj))
        have hb8 := HP.out.2.2.2 k
        have c8 := HP.out.2.2.1
        clear hbs hbn hlt hF hFc hDA hDl hik
        generalize mkB k = mk at hsh e1 e2 hmk
        generalize fa F k = f1 at e1 e3
        generalize cb C k = c1 at e2 e3
        generalize nextF F C k = nf at e3 HNF
        go_wp2
        generalize wr.setCell ⟨w3.heap.size, k, none⟩ (.int .u64 (B k)) = w4 at HS1 ⊢
        refine wp_region_calm (fun w' => w'.cell? ⟨w.heap.size + 1, 4, none⟩ = some (.int .u64 C)) (.e 0 :: .e 0 :: .e 0 :: .e 0 :: .e 0 :: .e 0 :: .e 0 :: .e 0 :: .e 0 :: .e 0 :: .e 0 :: .e 0 :: .e 0 :: []) (by kernel_rfl) (by kernel_rfl) (by kernel_rfl) (by kernel_rfl) ?_
        have hHeld : w4.drew.cell? ⟨w.heap.size + 1, 4, none⟩ = some (.int .u64 C) := HS1.out.1.b5.drawn1.read 4
        repeat (refine mv_take0 (v := ?_) (by rfl) hHeld ?_ ?_; rotate_left 1; (focus (intro w hSw; (try dsimp only at hSw); have g0 := hSw; go_simp; (try with_reducible rfl); done)); (try simp only [Act.put, List.setIfInBounds_toArray, List.set_cons_zero, List.set_cons_succ]))
        refine mv_calm ?_
        clear hHeld ob od fd hmin hsh e1 e2 e3 hto hw8 hp8
        go_wp2
        go_roundw
        case rel => exact ⟨k + 1, nf, updA D k (B k), by have := HK.out; omega, by have := HI.out.2.2.2.2; omega, by go_num, rfl, HNF.out.1, fun j hj => (HNF.out.2 j (by have := HI.out.2.2.2.2; omega)).trans (HI.out.2.1 j hj), fun j hj => (if_neg (by have := HI.out.2.2.2.2; omega)).trans (HI.out.2.2.1 j hj), fun j => by unfold updA; split; exact hb8; exact HI.out.2.2.2.1 j, HS1.out.1.over (Below.refl _ _).drew, HS1.out.2.drawn1⟩
        case measure => simp [intOf]; have := HK.out; omega
      · have hk8 : 8 = k := by omega
        subst hk8
        have p0 : wr.cell? ⟨w3.heap.size, 0, none⟩ = some (.int .u64 (D 0)) := hbn.read 0
        have p1 : wr.cell? ⟨w3.heap.size, 1, none⟩ = some (.int .u64 (D 1)) := hbn.read 1
        have p2 : wr.cell? ⟨w3.heap.size, 2, none⟩ = some (.int .u64 (D 2)) := hbn.read 2
        have p3 : wr.cell? ⟨w3.heap.size, 3, none⟩ = some (.int .u64 (D 3)) := hbn.read 3
        have p4 : wr.cell? ⟨w3.heap.size, 4, none⟩ = some (.int .u64 (D 4)) := hbn.read 4
        have p5 : wr.cell? ⟨w3.heap.size, 5, none⟩ = some (.int .u64 (D 5)) := hbn.read 5
        have p6 : wr.cell? ⟨w3.heap.size, 6, none⟩ = some (.int .u64 (D 6)) := hbn.read 6
        have p7 : wr.cell? ⟨w3.heap.size, 7, none⟩ = some (.int .u64 (D 7)) := hbn.read 7
        have t0 : wr.cell? ⟨w.heap.size + 1 + 1, 0, none⟩ = some (.int .u8 mode) := hbs.b7.read 0
        have t1 : wr.cell? ⟨w.heap.size + 1 + 1, 1, none⟩ = some (.int .u8 kind) := hbs.b7.read 1
        have t2 : wr.cell? ⟨w.heap.size + 1 + 1, 2, none⟩ = some (.int .u64 at') := hbs.b7.read 2
        have t3 : wr.cell? ⟨w.heap.size + 1 + 1, 3, none⟩ = some (.int .i64 z) := hbs.b7.read 3
        have G1 := Lib.hid (fun wx hb => HFr.out F D hF hDl hFc hDA wx hb)
        have G2 := Lib.hid (fun wx hb => HCa.out F D mode hF hDl hFc hDA wx hb)
        clear hbs hbn hF hFc hDA hDl hik hk
        go_wp2_with (first
          | (go_at_call 14; refine (G1.out _ HS0.out.1.bel).mono ?_; rintro e w5 ⟨rfl, hb⟩; have HS5 := Lib.hid (And.intro (HS0.out.1.over hb) (HS0.out.2.over hb HS0.out.2.inHeap)); clear hb p0 p1 p2 p3 p4 p5 p6 p7 t0 t1 t2 t3; have p0 : w5.cell? ⟨w3.heap.size, 0, none⟩ = some (.int .u64 (D 0)) := HS5.out.2.read 0; have p1 : w5.cell? ⟨w3.heap.size, 1, none⟩ = some (.int .u64 (D 1)) := HS5.out.2.read 1; have p2 : w5.cell? ⟨w3.heap.size, 2, none⟩ = some (.int .u64 (D 2)) := HS5.out.2.read 2; have p3 : w5.cell? ⟨w3.heap.size, 3, none⟩ = some (.int .u64 (D 3)) := HS5.out.2.read 3; have p4 : w5.cell? ⟨w3.heap.size, 4, none⟩ = some (.int .u64 (D 4)) := HS5.out.2.read 4; have p5 : w5.cell? ⟨w3.heap.size, 5, none⟩ = some (.int .u64 (D 5)) := HS5.out.2.read 5; have p6 : w5.cell? ⟨w3.heap.size, 6, none⟩ = some (.int .u64 (D 6)) := HS5.out.2.read 6; have p7 : w5.cell? ⟨w3.heap.size, 7, none⟩ = some (.int .u64 (D 7)) := HS5.out.2.read 7; have t0 : w5.cell? ⟨w.heap.size + 1 + 1, 0, none⟩ = some (.int .u8 mode) := HS5.out.1.b7.read 0; have t1 : w5.cell? ⟨w.heap.size + 1 + 1, 1, none⟩ = some (.int .u8 kind) := HS5.out.1.b7.read 1; have t2 : w5.cell? ⟨w.heap.size + 1 + 1, 2, none⟩ = some (.int .u64 at') := HS5.out.1.b7.read 2; have t3 : w5.cell? ⟨w.heap.size + 1 + 1, 3, none⟩ = some (.int .i64 z) := HS5.out.1.b7.read 3)
          | (go_at_call 16; refine (G2.out _ HS5.out.1.bel).mono ?_; rintro e w6 ⟨rfl, hb⟩; have HS := Lib.hid (HS5.out.1.over hb); clear hb))
        clear p0 p1 p2 p3 p4 p5 p6 p7 t0 t1 t2 t3 HS0 HS5 G1 G2 HI
        refine act_genP ?_
        intro T hT
        refine wp_only (fun a' W' => ∃ U V M, a' = { tmps := (((((T.setIfInBounds 90 (.agg #[.int .u8 mode, .int .u8 kind, .int .u64 at', .int .i64 z])).setIfInBounds 91 (.agg #[.int .u8 mode, .int .u8 kind, .int .u64 at', .int .i64 z])).setIfInBounds 92 (.agg #[.int .u8 mode, .int .u8 kind, .int .u64 at', .int .i64 z])).setIfInBounds 16 (.pointer (some ⟨U, 0, none⟩))).setIfInBounds 17 (.pointer (some ⟨V, 0, none⟩))).setIfInBounds 18 (.pointer (some ⟨M, 0, none⟩)), defers := [] } ∧ Cp w W' A mode kind at' z C B U V M mode mode mode) ?_ ?_
        · subst hT
          refine wp_region_tree (fun W' => W'.cell? ⟨w.heap.size + 1 + 1, 0, none⟩ = some (.int .u8 mode) ∧ W'.cell? ⟨w.heap.size + 1 + 1, 1, none⟩ = some (.int .u8 kind) ∧ W'.cell? ⟨w.heap.size + 1 + 1, 2, none⟩ = some (.int .u64 at') ∧ W'.cell? ⟨w.heap.size + 1 + 1, 3, none⟩ = some (.int .i64 z)) (.e 0 (.e 0 (.e 0 (.f3 0 (.f2 0 (.l 0 (.l 0 (.l 0 (.l 0 .z)))) 1 (.l 0 (.l 0 (.l 0 (.l 0 .z))))) 1 (.f2 0 (.l 0 (.l 0 (.l 0 (.l 0 .z)))) 1 (.l 0 (.l 0 (.l 0 (.l 0 .z))))) 2 (.f2 0 (.l 0 (.l 0 (.l 0 (.l 0 .z)))) 1 (.l 0 (.l 0 (.l 0 (.l 0 .z))))))))) (by kernel_rfl) (by kernel_rfl) (by kernel_rfl) (by kernel_rfl) ?_
          have k1 : ∀ a : Array Value, Bh w (w6.alloc (.cells a 35)).drew A mode kind at' z C B := fun a => HS.out.over (((Below.refl _ _).alloc (Nat.le_refl _) _).drew)
          have k2 : ∀ a b : Array Value, Bh w ((w6.alloc (.cells a 35)).alloc (.cells b 35)).drew A mode kind at' z C B := fun a b => HS.out.over ((((Below.refl _ _).alloc (Nat.le_refl _) _).alloc (by simp) _).drew)
          have k3 : ∀ a b c : Array Value, Bh w (((w6.alloc (.cells a 35)).alloc (.cells b 35)).alloc (.cells c 35)).drew A mode kind at' z C B := fun a b c => HS.out.over (((((Below.refl _ _).alloc (Nat.le_refl _) _).alloc (by simp) _).alloc (by simp; omega) _).drew)
          have h1 := fun a => And.intro ((k1 a).b7.read 0) (And.intro ((k1 a).b7.read 1) (And.intro ((k1 a).b7.read 2) ((k1 a).b7.read 3)))
          have h2 := fun a b => And.intro ((k2 a b).b7.read 0) (And.intro ((k2 a b).b7.read 1) (And.intro ((k2 a b).b7.read 2) ((k2 a b).b7.read 3)))
          have h3 := fun a b c => And.intro ((k3 a b c).b7.read 0) (And.intro ((k3 a b c).b7.read 1) (And.intro ((k3 a b c).b7.read 2) ((k3 a b c).b7.read 3)))
          have hbh := k3 #[.int .u8 mode, .int .u8 kind, .int .u64 at', .int .i64 z] #[.int .u8 mode, .int .u8 kind, .int .u64 at', .int .i64 z] #[.int .u8 mode, .int .u8 kind, .int .u64 at', .int .i64 z]
          have hb1 : Box (((w6.alloc (.cells #[.int .u8 mode, .int .u8 kind, .int .u64 at', .int .i64 z] 35)).alloc (.cells #[.int .u8 mode, .int .u8 kind, .int .u64 at', .int .i64 z] 35)).alloc (.cells #[.int .u8 mode, .int .u8 kind, .int .u64 at', .int .i64 z] 35)).drew w6.heap.size 35 #[.int .u8 mode, .int .u8 kind, .int .u64 at', .int .i64 z] := ((Box.made w6 35 _).more _).more _
          have hb2 : Box (((w6.alloc (.cells #[.int .u8 mode, .int .u8 kind, .int .u64 at', .int .i64 z] 35)).alloc (.cells #[.int .u8 mode, .int .u8 kind, .int .u64 at', .int .i64 z] 35)).alloc (.cells #[.int .u8 mode, .int .u8 kind, .int .u64 at', .int .i64 z] 35)).drew (w6.heap.size + 1) 35 #[.int .u8 mode, .int .u8 kind, .int .u64 at', .int .i64 z] := (box2 w6 _ 35 _).more _
          have hb3 : Box (((w6.alloc (.cells #[.int .u8 mode, .int .u8 kind, .int .u64 at', .int .i64 z] 35)).alloc (.cells #[.int .u8 mode, .int .u8 kind, .int .u64 at', .int .i64 z] 35)).alloc (.cells #[.int .u8 mode, .int .u8 kind, .int .u64 at', .int .i64 z] 35)).drew (w6.heap.size + 1 + 1) 35 #[.int .u8 mode, .int .u8 kind, .int .u64 at', .int .i64 z] := by
            have h := box2 (w6.alloc (.cells #[.int .u8 mode, .int .u8 kind, .int .u64 at', .int .i64 z] 35)) (.cells #[.int .u8 mode, .int .u8 kind, .int .u64 at', .int .i64 z] 35) 35 #[.int .u8 mode, .int .u8 kind, .int .u64 at', .int .i64 z]
            rw [World.size_alloc] at h
            exact h
          have HN : Hid (w.heap.size + 1 + 1 < w6.heap.size) := Lib.hid HS.out.b7.inHeap
          have hHeld := And.intro (HS.out.b7.drawn1.read 0) (And.intro (HS.out.b7.drawn1.read 1) (And.intro (HS.out.b7.drawn1.read 2) (HS.out.b7.drawn1.read 3)))
          clear k1 k2 k3
          repeat (refine mt_take0 (v := ?_) (by rfl) hHeld ?_ ?_; rotate_left 1; (focus (intro w hSw; (try dsimp only at hSw); obtain ⟨g0, g1, g2, g3⟩ := hSw; go_simp; (try with_reducible rfl); done)); (try simp only [Act.put, List.setIfInBounds_toArray, List.set_cons_zero, List.set_cons_succ, List.eraseIdx]))
          clear hHeld
          refine mt_f3 ?_ ?_ ?_
          · refine up_of rfl (by rfl) (fun K hK => ?_)
            go_simp
            refine hK.out _ _ (h1 _) ?_
            clear hK K
            (try simp only [Act.put, List.setIfInBounds_toArray, List.set_cons_zero, List.set_cons_succ, List.eraseIdx])
            refine mt_f2 ?_ ?_
            · refine up_of rfl (by rfl) (fun K hK => ?_)
              go_simp
              refine hK.out _ _ (h2 _ _) ?_
              clear hK K
              (try simp only [Act.put, List.setIfInBounds_toArray, List.set_cons_zero, List.set_cons_succ, List.eraseIdx])
              refine mt_l (up_of rfl (by rfl) (fun K hK => ?_))
              go_simp
              refine hK.out _ _ (h3 _ _ _) ?_
              clear hK K
              (try simp only [Act.put, List.setIfInBounds_toArray, List.set_cons_zero, List.set_cons_succ, List.eraseIdx])
              refine mt_l (up_of rfl (by rfl) (fun K hK => ?_))
              go_simp
              refine hK.out _ _ (h3 _ _ _) ?_
              clear hK K
              (try simp only [Act.put, List.setIfInBounds_toArray, List.set_cons_zero, List.set_cons_succ, List.eraseIdx])
              refine mt_l (up_of rfl (by rfl) (fun K hK => ?_))
              go_simp
              refine hK.out _ _ (h3 _ _ _) ?_
              clear hK K
              (try simp only [Act.put, List.setIfInBounds_toArray, List.set_cons_zero, List.set_cons_succ, List.eraseIdx])
              refine mt_l (up_of rfl (by rfl) (fun K hK => ?_))
              go_simp
              refine hK.out _ _ (h3 _ _ _) ?_
              clear hK K
              (try simp only [Act.put, List.setIfInBounds_toArray, List.set_cons_zero, List.set_cons_succ, List.eraseIdx])
              refine mt_calm ?_
              exact ⟨w6.heap.size, w6.heap.size + 1, w6.heap.size + 1 + 1, rfl, ⟨hbh, hb1, hb2, hb3, (by omega), (by omega), (by omega), (by have := HN.out; omega), (by have := HN.out; omega), (by have := HN.out; omega)⟩⟩
            · refine up_of rfl (by rfl) (fun K hK => ?_)
              go_simp
              refine hK.out _ _ (h2 _ _) ?_
              clear hK K
              (try simp only [Act.put, List.setIfInBounds_toArray, List.set_cons_zero, List.set_cons_succ, List.eraseIdx])
              refine mt_l (up_of rfl (by rfl) (fun K hK => ?_))
              go_simp
              refine hK.out _ _ (h3 _ _ _) ?_
              clear hK K
              (try simp only [Act.put, List.setIfInBounds_toArray, List.set_cons_zero, List.set_cons_succ, List.eraseIdx])
              refine mt_l (up_of rfl (by rfl) (fun K hK => ?_))
              go_simp
              refine hK.out _ _ (h3 _ _ _) ?_
              clear hK K
              (try simp only [Act.put, List.setIfInBounds_toArray, List.set_cons_zero, List.set_cons_succ, List.eraseIdx])
              refine mt_l (up_of rfl (by rfl) (fun K hK => ?_))
              go_simp
              refine hK.out _ _ (h3 _ _ _) ?_
              clear hK K
              (try simp only [Act.put, List.setIfInBounds_toArray, List.set_cons_zero, List.set_cons_succ, List.eraseIdx])
              refine mt_l (up_of rfl (by rfl) (fun K hK => ?_))
              go_simp
              refine hK.out _ _ (h3 _ _ _) ?_
              clear hK K
              (try simp only [Act.put, List.setIfInBounds_toArray, List.set_cons_zero, List.set_cons_succ, List.eraseIdx])
              refine mt_calm ?_
              exact ⟨w6.heap.size, w6.heap.size + 1 + 1, w6.heap.size + 1, rfl, ⟨hbh, hb1, hb3, hb2, (by omega), (by omega), (by omega), (by have := HN.out; omega), (by have := HN.out; omega), (by have := HN.out; omega)⟩⟩
          · refine up_of rfl (by rfl) (fun K hK => ?_)
            go_simp
            refine hK.out _ _ (h1 _) ?_
            clear hK K
            (try simp only [Act.put, List.setIfInBounds_toArray, List.set_cons_zero, List.set_cons_succ, List.eraseIdx])
            refine mt_f2 ?_ ?_
            · refine up_of rfl (by rfl) (fun K hK => ?_)
              go_simp
              refine hK.out _ _ (h2 _ _) ?_
              clear hK K
              (try simp only [Act.put, List.setIfInBounds_toArray, List.set_cons_zero, List.set_cons_succ, List.eraseIdx])
              refine mt_l (up_of rfl (by rfl) (fun K hK => ?_))
              go_simp
              refine hK.out _ _ (h3 _ _ _) ?_
              clear hK K
              (try simp only [Act.put, List.setIfInBounds_toArray, List.set_cons_zero, List.set_cons_succ, List.eraseIdx])
              refine mt_l (up_of rfl (by rfl) (fun K hK => ?_))
              go_simp
              refine hK.out _ _ (h3 _ _ _) ?_
              clear hK K
              (try simp only [Act.put, List.setIfInBounds_toArray, List.set_cons_zero, List.set_cons_succ, List.eraseIdx])
              refine mt_l (up_of rfl (by rfl) (fun K hK => ?_))
              go_simp
              refine hK.out _ _ (h3 _ _ _) ?_
              clear hK K
              (try simp only [Act.put, List.setIfInBounds_toArray, List.set_cons_zero, List.set_cons_succ, List.eraseIdx])
              refine mt_l (up_of rfl (by rfl) (fun K hK => ?_))
              go_simp
              refine hK.out _ _ (h3 _ _ _) ?_
              clear hK K
              (try simp only [Act.put, List.setIfInBounds_toArray, List.set_cons_zero, List.set_cons_succ, List.eraseIdx])
              refine mt_calm ?_
              exact ⟨w6.heap.size + 1, w6.heap.size, w6.heap.size + 1 + 1, rfl, ⟨hbh, hb2, hb1, hb3, (by omega), (by omega), (by omega), (by have := HN.out; omega), (by have := HN.out; omega), (by have := HN.out; omega)⟩⟩
            · refine up_of rfl (by rfl) (fun K hK => ?_)
              go_simp
              refine hK.out _ _ (h2 _ _) ?_
              clear hK K
              (try simp only [Act.put, List.setIfInBounds_toArray, List.set_cons_zero, List.set_cons_succ, List.eraseIdx])
              refine mt_l (up_of rfl (by rfl) (fun K hK => ?_))
              go_simp
              refine hK.out _ _ (h3 _ _ _) ?_
              clear hK K
              (try simp only [Act.put, List.setIfInBounds_toArray, List.set_cons_zero, List.set_cons_succ, List.eraseIdx])
              refine mt_l (up_of rfl (by rfl) (fun K hK => ?_))
              go_simp
              refine hK.out _ _ (h3 _ _ _) ?_
              clear hK K
              (try simp only [Act.put, List.setIfInBounds_toArray, List.set_cons_zero, List.set_cons_succ, List.eraseIdx])
              refine mt_l (up_of rfl (by rfl) (fun K hK => ?_))
              go_simp
              refine hK.out _ _ (h3 _ _ _) ?_
              clear hK K
              (try simp only [Act.put, List.setIfInBounds_toArray, List.set_cons_zero, List.set_cons_succ, List.eraseIdx])
              refine mt_l (up_of rfl (by rfl) (fun K hK => ?_))
              go_simp
              refine hK.out _ _ (h3 _ _ _) ?_
              clear hK K
              (try simp only [Act.put, List.setIfInBounds_toArray, List.set_cons_zero, List.set_cons_succ, List.eraseIdx])
              refine mt_calm ?_
              exact ⟨w6.heap.size + 1 + 1, w6.heap.size, w6.heap.size + 1, rfl, ⟨hbh, hb3, hb1, hb2, (by omega), (by omega), (by omega), (by have := HN.out; omega), (by have := HN.out; omega), (by have := HN.out; omega)⟩⟩
          · refine up_of rfl (by rfl) (fun K hK => ?_)
            go_simp
            refine hK.out _ _ (h1 _) ?_
            clear hK K
            (try simp only [Act.put, List.setIfInBounds_toArray, List.set_cons_zero, List.set_cons_succ, List.eraseIdx])
            refine mt_f2 ?_ ?_
            · refine up_of rfl (by rfl) (fun K hK => ?_)
              go_simp
              refine hK.out _ _ (h2 _ _) ?_
              clear hK K
              (try simp only [Act.put, List.setIfInBounds_toArray, List.set_cons_zero, List.set_cons_succ, List.eraseIdx])
              refine mt_l (up_of rfl (by rfl) (fun K hK => ?_))
              go_simp
              refine hK.out _ _ (h3 _ _ _) ?_
              clear hK K
              (try simp only [Act.put, List.setIfInBounds_toArray, List.set_cons_zero, List.set_cons_succ, List.eraseIdx])
              refine mt_l (up_of rfl (by rfl) (fun K hK => ?_))
              go_simp
              refine hK.out _ _ (h3 _ _ _) ?_
              clear hK K
              (try simp only [Act.put, List.setIfInBounds_toArray, List.set_cons_zero, List.set_cons_succ, List.eraseIdx])
              refine mt_l (up_of rfl (by rfl) (fun K hK => ?_))
              go_simp
              refine hK.out _ _ (h3 _ _ _) ?_
              clear hK K
              (try simp only [Act.put, List.setIfInBounds_toArray, List.set_cons_zero, List.set_cons_succ, List.eraseIdx])
              refine mt_l (up_of rfl (by rfl) (fun K hK => ?_))
              go_simp
              refine hK.out _ _ (h3 _ _ _) ?_
              clear hK K
              (try simp only [Act.put, List.setIfInBounds_toArray, List.set_cons_zero, List.set_cons_succ, List.eraseIdx])
              refine mt_calm ?_
              exact ⟨w6.heap.size + 1, w6.heap.size + 1 + 1, w6.heap.size, rfl, ⟨hbh, hb2, hb3, hb1, (by omega), (by omega), (by omega), (by have := HN.out; omega), (by have := HN.out; omega), (by have := HN.out; omega)⟩⟩
            · refine up_of rfl (by rfl) (fun K hK => ?_)
              go_simp
              refine hK.out _ _ (h2 _ _) ?_
              clear hK K
              (try simp only [Act.put, List.setIfInBounds_toArray, List.set_cons_zero, List.set_cons_succ, List.eraseIdx])
              refine mt_l (up_of rfl (by rfl) (fun K hK => ?_))
              go_simp
              refine hK.out _ _ (h3 _ _ _) ?_
              clear hK K
              (try simp only [Act.put, List.setIfInBounds_toArray, List.set_cons_zero, List.set_cons_succ, List.eraseIdx])
              refine mt_l (up_of rfl (by rfl) (fun K hK => ?_))
              go_simp
              refine hK.out _ _ (h3 _ _ _) ?_
              clear hK K
              (try simp only [Act.put, List.setIfInBounds_toArray, List.set_cons_zero, List.set_cons_succ, List.eraseIdx])
              refine mt_l (up_of rfl (by rfl) (fun K hK => ?_))
              go_simp
              refine hK.out _ _ (h3 _ _ _) ?_
              clear hK K
              (try simp only [Act.put, List.setIfInBounds_toArray, List.set_cons_zero, List.set_cons_succ, List.eraseIdx])
              refine mt_l (up_of rfl (by rfl) (fun K hK => ?_))
              go_simp
              refine hK.out _ _ (h3 _ _ _) ?_
              clear hK K
              (try simp only [Act.put, List.setIfInBounds_toArray, List.set_cons_zero, List.set_cons_succ, List.eraseIdx])
              refine mt_calm ?_
              exact ⟨w6.heap.size + 1 + 1, w6.heap.size + 1, w6.heap.size, rfl, ⟨hbh, hb3, hb2, hb1, (by omega), (by omega), (by omega), (by have := HN.out; omega), (by have := HN.out; omega), (by have := HN.out; omega)⟩⟩
        · rintro a' W7 ⟨U, V, M, rfl, hcp⟩
          subst hT
          simp only [List.setIfInBounds_toArray, List.set_cons_zero, List.set_cons_succ]
          have ne1 : ¬ (U = V) := hcp.uv
          have ne2 : ¬ (V = U) := fun e => hcp.uv e.symm
          have ne3 : ¬ (U = M) := hcp.um
          have ne4 : ¬ (M = U) := fun e => hcp.um e.symm
          have ne5 : ¬ (V = M) := hcp.vm
          have ne6 : ¬ (M = V) := fun e => hcp.vm e.symm
          have eu := hcp.bu.read 0
          have fu := hcp.bu.warm 0
          have ev := hcp.bv.read 0
          have fv' := hcp.bv.warm 0
          have em := hcp.bm.read 0
          have fm' := hcp.bm.warm 0
          have HCP : Hid (Cp w (((W7.setCell ⟨U, 0, none⟩ (.int .u8 0)).setCell ⟨V, 0, none⟩ (.int .u8 1)).setCell ⟨M, 0, none⟩ (.int .u8 3)) A mode kind at' z C B U V M 0 1 3) := Lib.hid
            ⟨((hcp.bh.put (p := ⟨U, 0, none⟩) hcp.hu _).put (p := ⟨V, 0, none⟩) hcp.hv _).put (p := ⟨M, 0, none⟩) hcp.hm _,
             box_eq (((hcp.bu.put 0 _).putFar (p := ⟨V, 0, none⟩) hcp.uv _).putFar (p := ⟨M, 0, none⟩) hcp.um _) rfl,
             box_eq (((hcp.bv.putFar (p := ⟨U, 0, none⟩) hcp.uv.symm _).put 0 _).putFar (p := ⟨M, 0, none⟩) hcp.vm _) rfl,
             box_eq (((hcp.bm.putFar (p := ⟨U, 0, none⟩) hcp.um.symm _).putFar (p := ⟨V, 0, none⟩) hcp.vm.symm _).put 0 _) rfl,
             hcp.uv, hcp.um, hcp.vm, hcp.hu, hcp.hv, hcp.hm⟩
          clear hcp
          go_wp2
          generalize ((W7.setCell ⟨U, 0, none⟩ (.int .u8 0)).setCell ⟨V, 0, none⟩ (.int .u8 1)).setCell ⟨M, 0, none⟩ (.int .u8 3) = w8 at HCP ⊢
          clear eu fu ev fv' em fm' ne1 ne2 ne3 ne4 ne5 ne6
          refine wp_region_calm (Hm w A kind at' z U M) (.e 0 :: .e 0 :: .e 0 :: .e 1 :: .e 1 :: .e 1 :: .l 0 :: .l 0 :: .e 0 :: .e 0 :: []) (by kernel_rfl) (by kernel_rfl) (by kernel_rfl) (by kernel_rfl) ?_
          have C0 := Lib.hid (HCP.out.over (Below.refl _ _).drew)
          have hHeld := C0.out.held
          repeat (first
            | (refine mv_take0 (v := ?_) (by rfl) hHeld ?_ ?_; rotate_left 1; (focus (intro w hSw; (try dsimp only at hSw); obtain ⟨g0, g1, g2, g3, g4, g5, g6, g7, g8, g9, g10, g11, g12, g13, g14, g15⟩ := hSw; go_simp; (try with_reducible rfl); done)); (try simp only [Act.put, List.setIfInBounds_toArray, List.set_cons_zero, List.set_cons_succ]))
            | (refine mv_take1 (v := ?_) (by rfl) hHeld ?_ ?_; rotate_left 1; (focus (intro w hSw; (try dsimp only at hSw); obtain ⟨g0, g1, g2, g3, g4, g5, g6, g7, g8, g9, g10, g11, g12, g13, g14, g15⟩ := hSw; go_simp; (try with_reducible rfl); done)); (try simp only [Act.put, List.setIfInBounds_toArray, List.set_cons_zero, List.set_cons_succ])))
          refine mv_loud0 (by rfl) (fun K hK => ?_)
          go_simp
          go_at_call 16
          refine (HCr.out 0 _ C0.out.bh.bel).mono ?_
          rintro e w9 ⟨rfl, hb⟩
          have C1 := Lib.hid (C0.out.over hb)
          clear hb hHeld
          have hHeld := C1.out.held
          refine hK.out _ _ hHeld ?_
          clear hK K
          (try simp only [Act.put, List.setIfInBounds_toArray, List.set_cons_zero, List.set_cons_succ])
          refine mv_loud0 (by rfl) (fun K hK => ?_)
          go_simp
          go_at_call 16
          refine (HCr.out 3 _ C1.out.bh.bel).mono ?_
          rintro e w10 ⟨rfl, hb⟩
          have C2 := Lib.hid (C1.out.over hb)
          clear hb hHeld
          have hHeld := C2.out.held
          refine hK.out _ _ hHeld ?_
          clear hK K
          (try simp only [Act.put, List.setIfInBounds_toArray, List.set_cons_zero, List.set_cons_succ])
          repeat (refine mv_take0 (v := ?_) (by rfl) hHeld ?_ ?_; rotate_left 1; (focus (intro w hSw; (try dsimp only at hSw); obtain ⟨g0, g1, g2, g3, g4, g5, g6, g7, g8, g9, g10, g11, g12, g13, g14, g15⟩ := hSw; go_simp; (try with_reducible rfl); done)); (try simp only [Act.put, List.setIfInBounds_toArray, List.set_cons_zero, List.set_cons_succ]))
          refine mv_calm ?_
          clear hHeld HCP C0 C1
          have hum : (all && allowed 0 kind at' hi r) = true → (all && allowed 3 kind at' hi r) = true := fun h => by
            rw [Bool.and_eq_true] at h ⊢
            exact ⟨h.1, allowed_up h.2⟩
          have HCs := Lib.hid (fun wx hb => HCr.out 1 wx hb)
          rw [show (all && allowed 1 kind at' hi r) = (all && allowed 0 kind at' hi r) by rw [allowed_su]] at HCs
          have hfin : (all && allowed 3 kind at' hi r) = false → all = false ∨ (wh = false ∨ 128 ≤ x.b) := fun h => by
            cases hal : all
            · exact .inl rfl
            · right
              rw [hal, Bool.true_and] at h
              obtain ⟨i', e', h1, h2⟩ := m_refused h
              rw [HRR.out] at h1
              cases h1
              rcases h2 with h2 | h2
              · left
                rw [HWH.out, hal, HRR.out]
                simp [whl, h2]
              · exact .inr h2
          generalize (all && allowed 0 kind at' hi r) = u at hum HCs ⊢
          generalize (all && allowed 3 kind at' hi r) = m0 at hum hfin ⊢
          clear HCr
          have p0 : w10.cell? ⟨w.heap.size, 0, none⟩ = some (.int .u64 (A 0)) := C2.out.bh.arr 0 (by decide)
          have p1 : w10.cell? ⟨w.heap.size, 1, none⟩ = some (.int .u64 (A 1)) := C2.out.bh.arr 1 (by decide)
          have p2 : w10.cell? ⟨w.heap.size, 2, none⟩ = some (.int .u64 (A 2)) := C2.out.bh.arr 2 (by decide)
          have p3 : w10.cell? ⟨w.heap.size, 3, none⟩ = some (.int .u64 (A 3)) := C2.out.bh.arr 3 (by decide)
          have p4 : w10.cell? ⟨w.heap.size, 4, none⟩ = some (.int .u64 (A 4)) := C2.out.bh.arr 4 (by decide)
          have p5 : w10.cell? ⟨w.heap.size, 5, none⟩ = some (.int .u64 (A 5)) := C2.out.bh.arr 5 (by decide)
          have p6 : w10.cell? ⟨w.heap.size, 6, none⟩ = some (.int .u64 (A 6)) := C2.out.bh.arr 6 (by decide)
          have p7 : w10.cell? ⟨w.heap.size, 7, none⟩ = some (.int .u64 (A 7)) := C2.out.bh.arr 7 (by decide)
          have s0 : w10.cell? ⟨V, 0, none⟩ = some (.int .u8 1) := C2.out.bv.read 0
          have s1 : w10.cell? ⟨V, 1, none⟩ = some (.int .u8 kind) := C2.out.bv.read 1
          have s2 : w10.cell? ⟨V, 2, none⟩ = some (.int .u64 at') := C2.out.bv.read 2
          have s3 : w10.cell? ⟨V, 3, none⟩ = some (.int .i64 z) := C2.out.bv.read 3
          have a0 : (0 : Int) ≤ (at' : Int) := Int.natCast_nonneg _
          have a1 : (at' : Int) < 18446744073709551616 := by have := HZ.out.2.2; omega
          have z0 := HZ.out.1
          have z1 := HZ.out.2.1
          by_cases hz : z < 1
          · skip
            cases m0
            · cases u
              · rcases hfin rfl with hal | hal | hal
                · subst hal
                  exfalso
                  have h1 := HL.out
                  have h2 : moreOf z = 0 := by unfold moreOf; omega
                  rw [h2] at h1
                  have h3 : decide (at' + 0 < 18446744073709551616) = true := decide_eq_true (by have := HZ.out.2.2; omega)
                  rw [h3] at h1
                  cases h1
                · clear hfin hum HWH
                  subst hal
                  go_wp2_with (first
                    | (go_at_call 10; have Hx := C4; refine (HW.out _ C4.out.bh.bel).mono ?_; rintro e w12 ⟨rfl, hb⟩; have H12 := Lib.hid (C4.out.bh.bel.trans (hb.mono C4.out.bh.bel.size)); clear hb)
                    | (go_at_call 16; refine (HCs.out _ C2.out.bh.bel).mono ?_; rintro e w11 ⟨rfl, hb⟩; have C4 := Lib.hid (C2.out.over hb); clear hb p0 p1 p2 p3 p4 p5 p6 p7 s0 s1 s2 s3; have q2 : w11.cell? ⟨w.heap.size + 1 + 1, 2, none⟩ = some (.int .u64 at') := C4.out.bh.b7.read 2; have q3 : w11.cell? ⟨w.heap.size + 1 + 1, 3, none⟩ = some (.int .i64 z) := C4.out.bh.b7.read 3))
                  go_ret
                  exact ⟨rfl, H12.out⟩
                · have hq : (c : Int) / 2 ^ (8 * i0 + 7) % 2 = 1 := HQB.out hal
                  have hqn : (0 : Int) ≤ (c : Int) / 2 ^ (8 * i0 + 7) := Int.ediv_nonneg (Int.natCast_nonneg _) (Int.pow_nonneg (by decide))
                  have hqt : ((c : Int) / 2 ^ (8 * i0 + 7)).tmod 2 = 1 := by rw [Int.tmod_eq_emod_of_nonneg hqn]; exact hq
                  clear hqn
                  clear hfin hum hal HWH
                  cases wh
                  · skip
                    go_wp2_with (first
                      | (go_at_call 10; have Hx := C4; refine (HW.out _ C4.out.bh.bel).mono ?_; rintro e w12 ⟨rfl, hb⟩; have H12 := Lib.hid (C4.out.bh.bel.trans (hb.mono C4.out.bh.bel.size)); clear hb)
                      | (go_at_call 16; refine (HCs.out _ C2.out.bh.bel).mono ?_; rintro e w11 ⟨rfl, hb⟩; have C4 := Lib.hid (C2.out.over hb); clear hb p0 p1 p2 p3 p4 p5 p6 p7 s0 s1 s2 s3; have q2 : w11.cell? ⟨w.heap.size + 1 + 1, 2, none⟩ = some (.int .u64 at') := C4.out.bh.b7.read 2; have q3 : w11.cell? ⟨w.heap.size + 1 + 1, 3, none⟩ = some (.int .i64 z) := C4.out.bh.b7.read 3))
                    go_ret
                    exact ⟨rfl, H12.out⟩
                  · skip
                    go_wp2_with (first
                      | (go_at_call 10; have Hx := C4; refine (HW.out _ C4.out.bh.bel).mono ?_; rintro e w12 ⟨rfl, hb⟩; have H12 := Lib.hid (C4.out.bh.bel.trans (hb.mono C4.out.bh.bel.size)); clear hb)
                      | (go_at_call 16; refine (HCs.out _ C2.out.bh.bel).mono ?_; rintro e w11 ⟨rfl, hb⟩; have C4 := Lib.hid (C2.out.over hb); clear hb p0 p1 p2 p3 p4 p5 p6 p7 s0 s1 s2 s3; have q2 : w11.cell? ⟨w.heap.size + 1 + 1, 2, none⟩ = some (.int .u64 at') := C4.out.bh.b7.read 2; have q3 : w11.cell? ⟨w.heap.size + 1 + 1, 3, none⟩ = some (.int .i64 z) := C4.out.bh.b7.read 3))
                    go_ret
                    exact ⟨rfl, H12.out⟩
              · exact absurd (hum rfl) (by simp)
            · clear hfin hum
              cases u
              · skip
                go_wp2_with (first
                  | (go_at_call 10; have Hx := C4; refine (HW.out _ C4.out.bh.bel).mono ?_; rintro e w12 ⟨rfl, hb⟩; have H12 := Lib.hid (C4.out.bh.bel.trans (hb.mono C4.out.bh.bel.size)); clear hb)
                  | (go_at_call 16; refine (HCs.out _ C2.out.bh.bel).mono ?_; rintro e w11 ⟨rfl, hb⟩; have C4 := Lib.hid (C2.out.over hb); clear hb p0 p1 p2 p3 p4 p5 p6 p7 s0 s1 s2 s3; have q2 : w11.cell? ⟨w.heap.size + 1 + 1, 2, none⟩ = some (.int .u64 at') := C4.out.bh.b7.read 2; have q3 : w11.cell? ⟨w.heap.size + 1 + 1, 3, none⟩ = some (.int .i64 z) := C4.out.bh.b7.read 3))
                go_ret
                exact ⟨rfl, H12.out⟩
              · skip
                go_wp2_with (first
                  | (go_at_call 10; have Hx := C4; refine (HW.out _ C4.out.bh.bel).mono ?_; rintro e w12 ⟨rfl, hb⟩; have H12 := Lib.hid (C4.out.bh.bel.trans (hb.mono C4.out.bh.bel.size)); clear hb)
                  | (go_at_call 16; refine (HCs.out _ C2.out.bh.bel).mono ?_; rintro e w11 ⟨rfl, hb⟩; have C4 := Lib.hid (C2.out.over hb); clear hb p0 p1 p2 p3 p4 p5 p6 p7 s0 s1 s2 s3; have q2 : w11.cell? ⟨w.heap.size + 1 + 1, 2, none⟩ = some (.int .u64 at') := C4.out.bh.b7.read 2; have q3 : w11.cell? ⟨w.heap.size + 1 + 1, 3, none⟩ = some (.int .i64 z) := C4.out.bh.b7.read 3))
                go_ret
                exact ⟨rfl, H12.out⟩
          · skip
            cases m0
            · cases u
              · rcases hfin rfl with hal | hal | hal
                · subst hal
                  have h1 := HL.out
                  have h2 : ¬ (at' + moreOf z < 18446744073709551616) := of_decide_eq_false h1.symm
                  have h3 : (18446744073709551616 : Int) ≤ (at' : Int) + (z - 1) := by unfold moreOf at h2; omega
                  have y1 : IntKind.u64.wrap ((at' : Int) + (z - 1)) = (at' : Int) + (z - 1) - 18446744073709551616 := by show ((at' : Int) + (z - 1)) % 18446744073709551616 = _; omega
                  have y2 : decide ((at' : Int) + (z - 1) - 18446744073709551616 < (at' : Int)) = true := decide_eq_true (by omega)
                  clear h1 h2 h3 hfin hum
                  go_wp2_with (first
                    | (go_at_call 10; have Hx := C4; refine (HW.out _ C4.out.bh.bel).mono ?_; rintro e w12 ⟨rfl, hb⟩; have H12 := Lib.hid (C4.out.bh.bel.trans (hb.mono C4.out.bh.bel.size)); clear hb)
                    | (go_at_call 16; refine (HCs.out _ C2.out.bh.bel).mono ?_; rintro e w11 ⟨rfl, hb⟩; have C4 := Lib.hid (C2.out.over hb); clear hb p0 p1 p2 p3 p4 p5 p6 p7 s0 s1 s2 s3; have q2 : w11.cell? ⟨w.heap.size + 1 + 1, 2, none⟩ = some (.int .u64 at') := C4.out.bh.b7.read 2; have q3 : w11.cell? ⟨w.heap.size + 1 + 1, 3, none⟩ = some (.int .i64 z) := C4.out.bh.b7.read 3))
                  go_ret
                  exact ⟨rfl, H12.out⟩
                · clear hfin hum HWH
                  subst hal
                  have y0 : ∃ v : Int, IntKind.u64.wrap ((at' : Int) + (z - 1)) = v := ⟨_, rfl⟩
                  obtain ⟨v, y1⟩ := y0
                  cases hlv : decide (v < (at' : Int))
                  · skip
                    go_wp2_with (first
                      | (go_at_call 10; have Hx := C4; refine (HW.out _ C4.out.bh.bel).mono ?_; rintro e w12 ⟨rfl, hb⟩; have H12 := Lib.hid (C4.out.bh.bel.trans (hb.mono C4.out.bh.bel.size)); clear hb)
                      | (go_at_call 16; refine (HCs.out _ C2.out.bh.bel).mono ?_; rintro e w11 ⟨rfl, hb⟩; have C4 := Lib.hid (C2.out.over hb); clear hb p0 p1 p2 p3 p4 p5 p6 p7 s0 s1 s2 s3; have q2 : w11.cell? ⟨w.heap.size + 1 + 1, 2, none⟩ = some (.int .u64 at') := C4.out.bh.b7.read 2; have q3 : w11.cell? ⟨w.heap.size + 1 + 1, 3, none⟩ = some (.int .i64 z) := C4.out.bh.b7.read 3))
                    go_ret
                    exact ⟨rfl, H12.out⟩
                  · skip
                    go_wp2_with (first
                      | (go_at_call 10; have Hx := C4; refine (HW.out _ C4.out.bh.bel).mono ?_; rintro e w12 ⟨rfl, hb⟩; have H12 := Lib.hid (C4.out.bh.bel.trans (hb.mono C4.out.bh.bel.size)); clear hb)
                      | (go_at_call 16; refine (HCs.out _ C2.out.bh.bel).mono ?_; rintro e w11 ⟨rfl, hb⟩; have C4 := Lib.hid (C2.out.over hb); clear hb p0 p1 p2 p3 p4 p5 p6 p7 s0 s1 s2 s3; have q2 : w11.cell? ⟨w.heap.size + 1 + 1, 2, none⟩ = some (.int .u64 at') := C4.out.bh.b7.read 2; have q3 : w11.cell? ⟨w.heap.size + 1 + 1, 3, none⟩ = some (.int .i64 z) := C4.out.bh.b7.read 3))
                    go_ret
                    exact ⟨rfl, H12.out⟩
                · have hq : (c : Int) / 2 ^ (8 * i0 + 7) % 2 = 1 := HQB.out hal
                  have hqn : (0 : Int) ≤ (c : Int) / 2 ^ (8 * i0 + 7) := Int.ediv_nonneg (Int.natCast_nonneg _) (Int.pow_nonneg (by decide))
                  have hqt : ((c : Int) / 2 ^ (8 * i0 + 7)).tmod 2 = 1 := by rw [Int.tmod_eq_emod_of_nonneg hqn]; exact hq
                  clear hqn
                  clear hfin hum hal HWH
                  cases wh
                  · skip
                    have y0 : ∃ v : Int, IntKind.u64.wrap ((at' : Int) + (z - 1)) = v := ⟨_, rfl⟩
                    obtain ⟨v, y1⟩ := y0
                    cases hlv : decide (v < (at' : Int))
                    · skip
                      go_wp2_with (first
                        | (go_at_call 10; have Hx := C4; refine (HW.out _ C4.out.bh.bel).mono ?_; rintro e w12 ⟨rfl, hb⟩; have H12 := Lib.hid (C4.out.bh.bel.trans (hb.mono C4.out.bh.bel.size)); clear hb)
                        | (go_at_call 16; refine (HCs.out _ C2.out.bh.bel).mono ?_; rintro e w11 ⟨rfl, hb⟩; have C4 := Lib.hid (C2.out.over hb); clear hb p0 p1 p2 p3 p4 p5 p6 p7 s0 s1 s2 s3; have q2 : w11.cell? ⟨w.heap.size + 1 + 1, 2, none⟩ = some (.int .u64 at') := C4.out.bh.b7.read 2; have q3 : w11.cell? ⟨w.heap.size + 1 + 1, 3, none⟩ = some (.int .i64 z) := C4.out.bh.b7.read 3))
                      go_ret
                      exact ⟨rfl, H12.out⟩
                    · skip
                      go_wp2_with (first
                        | (go_at_call 10; have Hx := C4; refine (HW.out _ C4.out.bh.bel).mono ?_; rintro e w12 ⟨rfl, hb⟩; have H12 := Lib.hid (C4.out.bh.bel.trans (hb.mono C4.out.bh.bel.size)); clear hb)
                        | (go_at_call 16; refine (HCs.out _ C2.out.bh.bel).mono ?_; rintro e w11 ⟨rfl, hb⟩; have C4 := Lib.hid (C2.out.over hb); clear hb p0 p1 p2 p3 p4 p5 p6 p7 s0 s1 s2 s3; have q2 : w11.cell? ⟨w.heap.size + 1 + 1, 2, none⟩ = some (.int .u64 at') := C4.out.bh.b7.read 2; have q3 : w11.cell? ⟨w.heap.size + 1 + 1, 3, none⟩ = some (.int .i64 z) := C4.out.bh.b7.read 3))
                      go_ret
                      exact ⟨rfl, H12.out⟩
                  · skip
                    have y0 : ∃ v : Int, IntKind.u64.wrap ((at' : Int) + (z - 1)) = v := ⟨_, rfl⟩
                    obtain ⟨v, y1⟩ := y0
                    cases hlv : decide (v < (at' : Int))
                    · skip
                      go_wp2_with (first
                        | (go_at_call 10; have Hx := C4; refine (HW.out _ C4.out.bh.bel).mono ?_; rintro e w12 ⟨rfl, hb⟩; have H12 := Lib.hid (C4.out.bh.bel.trans (hb.mono C4.out.bh.bel.size)); clear hb)
                        | (go_at_call 16; refine (HCs.out _ C2.out.bh.bel).mono ?_; rintro e w11 ⟨rfl, hb⟩; have C4 := Lib.hid (C2.out.over hb); clear hb p0 p1 p2 p3 p4 p5 p6 p7 s0 s1 s2 s3; have q2 : w11.cell? ⟨w.heap.size + 1 + 1, 2, none⟩ = some (.int .u64 at') := C4.out.bh.b7.read 2; have q3 : w11.cell? ⟨w.heap.size + 1 + 1, 3, none⟩ = some (.int .i64 z) := C4.out.bh.b7.read 3))
                      go_ret
                      exact ⟨rfl, H12.out⟩
                    · skip
                      go_wp2_with (first
                        | (go_at_call 10; have Hx := C4; refine (HW.out _ C4.out.bh.bel).mono ?_; rintro e w12 ⟨rfl, hb⟩; have H12 := Lib.hid (C4.out.bh.bel.trans (hb.mono C4.out.bh.bel.size)); clear hb)
                        | (go_at_call 16; refine (HCs.out _ C2.out.bh.bel).mono ?_; rintro e w11 ⟨rfl, hb⟩; have C4 := Lib.hid (C2.out.over hb); clear hb p0 p1 p2 p3 p4 p5 p6 p7 s0 s1 s2 s3; have q2 : w11.cell? ⟨w.heap.size + 1 + 1, 2, none⟩ = some (.int .u64 at') := C4.out.bh.b7.read 2; have q3 : w11.cell? ⟨w.heap.size + 1 + 1, 3, none⟩ = some (.int .i64 z) := C4.out.bh.b7.read 3))
                      go_ret
                      exact ⟨rfl, H12.out⟩
              · exact absurd (hum rfl) (by simp)
            · clear hfin hum
              cases u
              · skip
                go_wp2_with (first
                  | (go_at_call 10; have Hx := C4; refine (HW.out _ C4.out.bh.bel).mono ?_; rintro e w12 ⟨rfl, hb⟩; have H12 := Lib.hid (C4.out.bh.bel.trans (hb.mono C4.out.bh.bel.size)); clear hb)
                  | (go_at_call 16; refine (HCs.out _ C2.out.bh.bel).mono ?_; rintro e w11 ⟨rfl, hb⟩; have C4 := Lib.hid (C2.out.over hb); clear hb p0 p1 p2 p3 p4 p5 p6 p7 s0 s1 s2 s3; have q2 : w11.cell? ⟨w.heap.size + 1 + 1, 2, none⟩ = some (.int .u64 at') := C4.out.bh.b7.read 2; have q3 : w11.cell? ⟨w.heap.size + 1 + 1, 3, none⟩ = some (.int .i64 z) := C4.out.bh.b7.read 3))
                go_ret
                exact ⟨rfl, H12.out⟩
              · skip
                go_wp2_with (first
                  | (go_at_call 10; have Hx := C4; refine (HW.out _ C4.out.bh.bel).mono ?_; rintro e w12 ⟨rfl, hb⟩; have H12 := Lib.hid (C4.out.bh.bel.trans (hb.mono C4.out.bh.bel.size)); clear hb)
                  | (go_at_call 16; refine (HCs.out _ C2.out.bh.bel).mono ?_; rintro e w11 ⟨rfl, hb⟩; have C4 := Lib.hid (C2.out.over hb); clear hb p0 p1 p2 p3 p4 p5 p6 p7 s0 s1 s2 s3; have q2 : w11.cell? ⟨w.heap.size + 1 + 1, 2, none⟩ = some (.int .u64 at') := C4.out.bh.b7.read 2; have q3 : w11.cell? ⟨w.heap.size + 1 + 1, 3, none⟩ = some (.int .i64 z) := C4.out.bh.b7.read 3))
                go_ret
                exact ⟨rfl, H12.out⟩
end
end Go.Proofs.YtcgklflflfemnaaDoor
