/- Words for a map that the call makes: its entries by name; a store of a new key, and a look-up. -/
import Derived.Test.YtmpedmiehhnniaaA
import Derived.MapKept
import Derived.Carry
namespace Go.Proofs.Ytmpedmiehhnniaa
open Go.RowKit Go.MapKept

/-- Block b is a map of just these entries. -/
def Book (w : World) (b : Nat) (es : Array MapEntry) (c : Nat) : Prop := w.heap[b]? = some (.map es c)

namespace Book
variable {w w' : World} {b c : Nat} {es : Array MapEntry}
theorem inHeap (h : Book w b es c) : b < w.heap.size := (Array.getElem?_eq_some_iff.1 h).1
theorem made (w : World) : Book (w.alloc (.map #[] 0)) w.heap.size #[] 0 := heap_alloc_new w _
theorem more (h : Book w b es c) (o : Obj) : Book (w.alloc o) b es c := (Below.heap_alloc w o b h.inHeap).trans h
theorem over {B : Nat} (h : Book w b es c) (hb : Below B w w') (hg : b < B) : Book w' b es c := (hb.block b hg).trans h
end Book

section
variable {P : Program} {w : World} {t kt et : TypeId} {q : IntKind} {b c : Nat} {es : Array MapEntry}
theorem run_bookPut (hm : P.underlying t = some (.map kt et)) (hk : P.underlying kt = some (.int q)) (h : Book w b es c) (k : Int) (v : Value) (hf : Instr.findNow (.int q) (.int q k) es.toList 0 = some none) :
    ∃ w', (Instr.mapUpdate t (.map (some b)) (.int q k) v).run P w = .ok () w' ∧ Book w' b (es.push ⟨.int q k, v, c⟩) (c + 1) ∧ Below b w w' := by
  have hb : w.heap[b]? = some (.map es c) := h
  have hky : MapKept.IsKey (.int q) (.int q k) := rfl
  refine ⟨{ w with heap := w.heap.setIfInBounds b (.map (es.push ⟨.int q k, v, c⟩) (c + 1)) }, ?_, (MapKept.heap_set hb).1, ⟨rfl, rfl, rfl, by simp, fun i hi => (MapKept.heap_set hb).2 i (by omega)⟩⟩
  simp [Instr.mapUpdate, run_underlying hm, MapKept.run_getObj_map hb, MapKept.run_checkKey hk hky, MapKept.run_findKey hk hf, MapKept.run_setObj_map _ hb, Result.andThen]
theorem run_bookLook (hm : P.underlying t = some (.map kt et)) (hk : P.underlying kt = some (.int q)) (h : Book w b es c) (k : Int) (i : Nat) (v : Value) (hf : Instr.findNow (.int q) (.int q k) es.toList 0 = some (some (i, v))) :
    (Instr.lookup t (.map (some b)) (.int q k) false).run P w = .ok v w := by
  have hb : w.heap[b]? = some (.map es c) := h
  have hky : MapKept.IsKey (.int q) (.int q k) := rfl
  simp [Instr.lookup, run_underlying hm, MapKept.run_getObj_map hb, MapKept.run_checkKey hk hky, MapKept.run_findKey hk hf, Result.andThen]

theorem wpList_bookPut {ops : Array Oper} {rest : List Oper} {o : Oper} {a : Act} {Q : Exit → Act → World → Prop} (hg : o.guard = none) (m x v : Operand) (t : TypeId) (ho : o.op = .mapUpdate t m x v ∨ o.op = .insert t m x v)
    (kt et : TypeId) (q : IntKind) (hm : P.underlying t = some (.map kt et)) (hk : P.underlying kt = some (.int q)) (b c : Nat) (es : Array MapEntry) (k : Int) (u : Value) (em : a.eval m = .map (some b)) (ex : a.eval x = .int q k) (ev : a.eval v = u)
    (h : Book w b es c) (hf : Instr.findNow (.int q) (.int q k) es.toList 0 = some none) (hK : ∀ w', Book w' b (es.push ⟨.int q k, u, c⟩) (c + 1) → Below b w w' → wpList P ops Q rest (a.put o.dst undef) w') : wpList P ops Q (o :: rest) a w :=
  wpList_plain hg fun _ hK' => by
    obtain ⟨w', hr, h1, h2⟩ := run_bookPut (P := P) hm hk h k u hf
    unfold Oper.wp execOp
    rcases ho with ho | ho
    · simp only [ho, em, ex, ev, hr, Sem.run_bind, Sem.run_pure, Result.andThen_ok]
      exact hK' _ _ (hK w' h1 h2)
    · simp only [ho, em, ex, ev, hr, Sem.run_bind, Sem.run_pure, Result.andThen_ok]
      exact hK' _ _ (hK w' h1 h2)
theorem wpList_bookLook {ops : Array Oper} {rest : List Oper} {o : Oper} {a : Act} {Q : Exit → Act → World → Prop} (hg : o.guard = none) (m x : Operand) (t : TypeId) (ho : o.op = .lookup t m x false)
    (kt et : TypeId) (q : IntKind) (hm : P.underlying t = some (.map kt et)) (hk : P.underlying kt = some (.int q)) (b c : Nat) (es : Array MapEntry) (k : Int) (i : Nat) (u : Value) (em : a.eval m = .map (some b)) (ex : a.eval x = .int q k)
    (h : Book w b es c) (hf : Instr.findNow (.int q) (.int q k) es.toList 0 = some (some (i, u))) (hK : wpList P ops Q rest (a.put o.dst u) w) : wpList P ops Q (o :: rest) a w :=
  wpList_plain hg fun _ hK' => by
    unfold Oper.wp execOp
    simp only [ho, em, ex, run_bookLook (P := P) hm hk h k i u hf, Sem.run_bind, Sem.run_pure, Result.andThen_ok]
    exact hK' _ _ hK
end
end Go.Proofs.Ytmpedmiehhnniaa
