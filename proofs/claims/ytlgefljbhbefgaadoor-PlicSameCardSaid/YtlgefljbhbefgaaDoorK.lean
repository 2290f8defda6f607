/- Read and Write of the program's PLIC, whatever register. -/
import Derived.Test.YtlgefljbhbefgaaDoorJ
import Derived.Shelf.Abstract
set_option linter.unusedVariables false
set_option linter.unusedSimpArgs false
namespace Go.Proofs.YtlgefljbhbefgaaDoor
open Go.RowKit
/-- What is read, and what stands then. -/
def PS.rd (s : PS) (off : Nat) : Nat × PS := if 1 ≤ off / 4 ∧ off / 4 < 8 then (s.pr (off / 4), s) else if off = 8320 then (s.en 1, s) else if off = 8192 then (s.en 0, s) else if off = 2101248 then (s.th 1, s) else if off = 2097152 then (s.th 0, s) else if off = 2101252 then (s.best 1, s.claim 1) else if off = 2097156 then (s.best 0, s.claim 0) else if off = 4096 then (bitsN s.pe 8, s) else (0, s)
/-- What stands when it is written. -/
def PS.wr (s : PS) (off v : Nat) : PS := if 1 ≤ off / 4 ∧ off / 4 < 8 then s.setPr (off / 4) v else if off = 8320 then s.setEn 1 v else if off = 8192 then s.setEn 0 v else if off = 2101248 then s.setTh 1 v else if off = 2097152 then s.setTh 0 v else if off = 2101252 then s.done 1 v else if off = 2097156 then s.done 0 v else if off = 4096 then s else s
theorem PS.ok.rd {s : PS} (h : s.ok) (off : Nat) : (s.rd off).2.ok := by
  unfold PS.rd
  repeat' split
  all_goals first | exact h | exact h.claim _
theorem PS.ok.wr {s : PS} (h : s.ok) (off v : Nat) : (s.wr off v).ok := by
  unfold PS.wr
  split
  · rename_i hn
    exact h.setPr hn.1 v
  · repeat' split
    all_goals first | exact h | exact h.setEn _ _ | exact h.setTh _ _ | exact h.done _ _
section
variable {w : World} {P : Nat} {s : PS}
theorem isReg_lt {off : Nat} (h : isReg off 4 = true) : off < 2105344 := (of_decide_eq_true h).2.2
theorem read_any (h : Box w P 58 (plc s)) (ok : s.ok) (off : Nat) (hr : isReg off 4 = true) : Calls Tryd.prog 17 #[.pointer (some ⟨P, 0, none⟩), .int .u64 off, .int .i64 4] w fun e w' => e = .returned (.tuple #[.int .u64 (s.rd off).1, .bool true]) ∧ Box w' P 58 (plc (s.rd off).2) ∧ Only P w w' := by
  have e18 : ∀ args w, (callFunc 41 args).run Tryd.prog w = .ok (.enter 41 args) w := Go.Proofs.enters_of Tryd.func41 (by kernel_rfl) rfl
  have e20 : ∀ args w, (callFunc 43 args).run Tryd.prog w = .ok (.enter 43 args) w := Go.Proofs.enters_of Tryd.func43 (by kernel_rfl) rfl
  have e22 : ∀ args w, (callFunc 45 args).run Tryd.prog w = .ok (.enter 45 args) w := Go.Proofs.enters_of Tryd.func45 (by kernel_rfl) rfl
  have e24 : ∀ args w, (callFunc 47 args).run Tryd.prog w = .ok (.enter 47 args) w := Go.Proofs.enters_of Tryd.func47 (by kernel_rfl) rfl
  have e26 : ∀ args w, (callFunc 49 args).run Tryd.prog w = .ok (.enter 49 args) w := Go.Proofs.enters_of Tryd.func49 (by kernel_rfl) rfl
  have e28 : ∀ args w, (callFunc 51 args).run Tryd.prog w = .ok (.enter 51 args) w := Go.Proofs.enters_of Tryd.func51 (by kernel_rfl) rfl
  have hlt := isReg_lt hr
  by_cases hp : 1 ≤ off / 4 ∧ off / 4 < 8
  · have e : s.rd off = (s.pr (off / 4), s) := by rw [PS.rd, if_pos hp]
    rw [e]
    exact read_by h off hr 41 42 (off / 4 : Nat) _ _ e18 (fun W => find_pri (off / 4) off rfl hp.1 hp.2 W) (fun W hW => (pri_any hW (off / 4) hp.2 (ok.pr _)).mono fun e w' hz => ⟨hz.1, hW.over hz.2 hW.inHeap, Only.ofBelow hz.2⟩)
  by_cases hen1 : off = 8320
  · subst hen1
    exact read_by h 8320 hr 43 44 1 _ _ e20 (fun W => find_en1 W) (fun W hW => (enb_any hW 1 (by decide) (ok.en _)).mono fun e w' hz => ⟨hz.1, hW.over hz.2 hW.inHeap, Only.ofBelow hz.2⟩)
  by_cases hen0 : off = 8192
  · subst hen0
    exact read_by h 8192 hr 43 44 0 _ _ e20 (fun W => find_en0 W) (fun W hW => (enb_any hW 0 (by decide) (ok.en _)).mono fun e w' hz => ⟨hz.1, hW.over hz.2 hW.inHeap, Only.ofBelow hz.2⟩)
  by_cases hth1 : off = 2101248
  · subst hth1
    exact read_by h 2101248 hr 45 46 1 _ _ e22 (fun W => find_th1 W) (fun W hW => (thr_any hW 1 (by decide) (ok.th _)).mono fun e w' hz => ⟨hz.1, hW.over hz.2 hW.inHeap, Only.ofBelow hz.2⟩)
  by_cases hth0 : off = 2097152
  · subst hth0
    exact read_by h 2097152 hr 45 46 0 _ _ e22 (fun W => find_th0 W) (fun W hW => (thr_any hW 0 (by decide) (ok.th _)).mono fun e w' hz => ⟨hz.1, hW.over hz.2 hW.inHeap, Only.ofBelow hz.2⟩)
  by_cases hcl1 : off = 2101252
  · subst hcl1
    exact read_by h 2101252 hr 47 48 1 _ _ e24 (fun W => find_cl1 W) (fun W hW => claim_any hW ok 1 (by decide))
  by_cases hcl0 : off = 2097156
  · subst hcl0
    exact read_by h 2097156 hr 47 48 0 _ _ e24 (fun W => find_cl0 W) (fun W hW => claim_any hW ok 0 (by decide))
  by_cases hpnd : off = 4096
  · subst hpnd
    exact read_by h 4096 hr 49 50 0 _ _ e26 (fun W => find_pnd W) (fun W hW => (pending_any hW 0).mono fun e w' hz => ⟨hz.1, hW.over hz.2 hW.inHeap, Only.ofBelow hz.2⟩)
  have e : s.rd off = (0, s) := by rw [PS.rd, if_neg hp, if_neg hen1, if_neg hen0, if_neg hth1, if_neg hth0, if_neg hcl1, if_neg hcl0, if_neg hpnd]
  rw [e]
  exact read_by h off hr 51 50 0 0 s e28 (fun W => find_none off hlt hp hen1 hen0 hth1 hth0 hcl1 hcl0 hpnd W) (fun W hW => (nought_any 0).mono fun e w' hz => ⟨hz.1, hW.over hz.2 hW.inHeap, Only.ofBelow hz.2⟩)
theorem write_any (h : Box w P 58 (plc s)) (ok : s.ok) (off v : Nat) (hv : v < 18446744073709551616) (hr : isReg off 4 = true) : Calls Tryd.prog 18 #[.pointer (some ⟨P, 0, none⟩), .int .u64 off, .int .u64 v, .int .i64 4] w fun e w' => e = .returned (.bool true) ∧ Box w' P 58 (plc (s.wr off (v % 4294967296))) ∧ Only P w w' := by
  have e19 : ∀ args w, (callFunc 42 args).run Tryd.prog w = .ok (.enter 42 args) w := Go.Proofs.enters_of Tryd.func42 (by kernel_rfl) rfl
  have e21 : ∀ args w, (callFunc 44 args).run Tryd.prog w = .ok (.enter 44 args) w := Go.Proofs.enters_of Tryd.func44 (by kernel_rfl) rfl
  have e23 : ∀ args w, (callFunc 46 args).run Tryd.prog w = .ok (.enter 46 args) w := Go.Proofs.enters_of Tryd.func46 (by kernel_rfl) rfl
  have e25 : ∀ args w, (callFunc 48 args).run Tryd.prog w = .ok (.enter 48 args) w := Go.Proofs.enters_of Tryd.func48 (by kernel_rfl) rfl
  have e27 : ∀ args w, (callFunc 50 args).run Tryd.prog w = .ok (.enter 50 args) w := Go.Proofs.enters_of Tryd.func50 (by kernel_rfl) rfl
  have hlt := isReg_lt hr
  by_cases hp : 1 ≤ off / 4 ∧ off / 4 < 8
  · have e : s.wr off (v % 4294967296) = s.setPr (off / 4) (v % 4294967296) := by rw [PS.wr, if_pos hp]
    rw [e]
    exact write_by h off v hv hr 41 42 (off / 4 : Nat) _ e19 (fun W => find_pri (off / 4) off rfl hp.1 hp.2 W) (fun W hW => setPri_any hW (off / 4) hp.2 (v % 4294967296) (by omega))
  by_cases hen1 : off = 8320
  · subst hen1
    exact write_by h 8320 v hv hr 43 44 1 _ e21 (fun W => find_en1 W) (fun W hW => setEnb_any hW 1 (by decide) (v % 4294967296) (by omega))
  by_cases hen0 : off = 8192
  · subst hen0
    exact write_by h 8192 v hv hr 43 44 0 _ e21 (fun W => find_en0 W) (fun W hW => setEnb_any hW 0 (by decide) (v % 4294967296) (by omega))
  by_cases hth1 : off = 2101248
  · subst hth1
    exact write_by h 2101248 v hv hr 45 46 1 _ e23 (fun W => find_th1 W) (fun W hW => setThr_any hW 1 (by decide) (v % 4294967296) (by omega))
  by_cases hth0 : off = 2097152
  · subst hth0
    exact write_by h 2097152 v hv hr 45 46 0 _ e23 (fun W => find_th0 W) (fun W hW => setThr_any hW 0 (by decide) (v % 4294967296) (by omega))
  by_cases hcl1 : off = 2101252
  · subst hcl1
    exact write_by h 2101252 v hv hr 47 48 1 _ e25 (fun W => find_cl1 W) (fun W hW => done_any hW ok 1 (by decide) (v % 4294967296) (by omega))
  by_cases hcl0 : off = 2097156
  · subst hcl0
    exact write_by h 2097156 v hv hr 47 48 0 _ e25 (fun W => find_cl0 W) (fun W hW => done_any hW ok 0 (by decide) (v % 4294967296) (by omega))
  by_cases hpnd : off = 4096
  · subst hpnd
    exact write_by h 4096 v hv hr 49 50 0 _ e27 (fun W => find_pnd W) (fun W hW => (keep_any 0 _).mono fun e w' hz => ⟨hz.1, hW.over hz.2 hW.inHeap, Only.ofBelow hz.2⟩)
  have e : s.wr off (v % 4294967296) = s := by rw [PS.wr, if_neg hp, if_neg hen1, if_neg hen0, if_neg hth1, if_neg hth0, if_neg hcl1, if_neg hcl0, if_neg hpnd]
  rw [e]
  exact write_by h off v hv hr 51 50 0 s e27 (fun W => find_none off hlt hp hen1 hen0 hth1 hth0 hcl1 hcl0 hpnd W) (fun W hW => (keep_any 0 _).mono fun e w' hz => ⟨hz.1, hW.over hz.2 hW.inHeap, Only.ofBelow hz.2⟩)
end
end Go.Proofs.YtlgefljbhbefgaaDoor
