/- Truths that cannot all hold, bit by bit: a way that can't be is told by the kernel. -/
import Derived.Test.YtddacegeepgmmaaTj
set_option linter.unusedVariables false
set_option linter.unusedSimpArgs false
namespace Go.Proofs.Ytddacegeepgmmaa.Sx
open Go
noncomputable section

/-- A bit of a number. -/
abbrev Atm := N × Nat
def atmSame (a b : Atm) : Bool := Nat.beq a.2 b.2 && N.same a.1 b.1
def atmIn (a : Atm) : List Atm → Bool
  | [] => false
  | b :: l => match atmSame a b with | true => true | false => atmIn a l
def addA (a : Atm) (l : List Atm) : List Atm := match atmIn a l with | true => l | false => a :: l
def manyA : List Atm → Bool
  | _ :: _ :: _ :: _ :: _ :: _ :: _ :: _ => true
  | _ => false
def atomsS (j : Nat) : Src → List Atm → List Atm
  | .k _, l => l
  | .s x a _, l => addA (x, a + j) l
  | .r x a _, l => addA (x, a) l
  | .o _ u v, l => match manyA l with | true => l | false => atomsS j v (atomsS j u l)
abbrev Asg := List (Atm × Bool)
def lookA (a : Atm) : Asg → Option Bool
  | [] => none
  | (b, t) :: l => match atmSame a b with | true => some t | false => lookA a l
def turnB (g t : Bool) : Bool := match g with | true => bNot t | false => t
def evalS (A : Asg) (j : Nat) : Src → Option Bool
  | .k b => some b
  | .s x a g => match lookA (x, a + j) A with | some t => some (turnB g t) | none => none
  | .r x a g => match lookA (x, a) A with | some t => some (turnB g t) | none => none
  | .o f u v => match f with
    | .and => match evalS A j u with
      | some false => some false
      | some true => evalS A j v
      | none => match evalS A j v with | some false => some false | _ => none
    | .or => match evalS A j u with
      | some true => some true
      | some false => evalS A j v
      | none => match evalS A j v with | some true => some true | _ => none
    | .xor => match evalS A j u, evalS A j v with
      | some p, some q => some (turnB p q)
      | _, _ => none
    | _ => none
/-- A truth that holds, ats a bit; and which bits it is made of. -/
structure Fct where
  src : Src
  ats : List Atm
def subA : List Atm → List Atm → Bool
  | [], _ => true
  | a :: l, m => match atmIn a m with | true => subA l m | false => false
def relF (ats : List Atm) : List Fct → List Fct
  | [] => []
  | f :: l => match subA f.ats ats with | true => f :: relF ats l | false => relF ats l
def okF (A : Asg) : List Fct → Bool
  | [] => true
  | f :: l => match evalS A 0 f.src with | some false => false | _ => okF A l
/-- May it be so, may it not be so? All ways that the bits may be. -/
def en (R : List Fct) (s : Src) (j : Nat) : List Atm → Asg → Bool × Bool
  | [], A => match okF A R with
    | false => (false, false)
    | true => match evalS A j s with | some true => (true, false) | some false => (false, true) | none => (true, true)
  | a :: l, A => match en R s j l ((a, true) :: A) with
    | (true, true) => (true, true)
    | (p, q) => match en R s j l ((a, false) :: A) with | (u, v) => (p || u, q || v)
def ttG (F : List Fct) (s : Src) (j : Nat) (ats : List Atm) : Option Bool := match manyA ats with
  | true => none
  | false => match en (relF ats F) s j ats [] with
    | (true, true) => none
    | (true, false) => some true
    | (false, true) => some false
    | (false, false) => some true
def ttS (F : List Fct) (s : Src) (j : Nat) : Option Bool := match s with
  | .k b => some b
  | s => ttG F s j (atomsS j s [])
def clash (F : List Fct) (f : Fct) : Bool := match manyA f.ats with
  | true => false
  | false => match en (relF f.ats F) f.src 0 f.ats [] with
    | (false, false) => true
    | _ => false

/-! Bits of numbers that hang on truths -/
def andS (u v : Src) : Src := match u with
  | .k true => v
  | .k false => .k false
  | u => match v with
    | .k true => u
    | .k false => .k false
    | v => .o .and u v
def orS (u v : Src) : Src := match u with
  | .k false => v
  | .k true => .k true
  | u => match v with
    | .k false => u
    | .k true => .k true
    | v => .o .or u v
def muxS (c a b : Src) : Src := match Src.same a b with
  | true => a
  | false => orS (andS c a) (andS c.neg b)
def muxL (c : Src) (la lb : Segs) : Option Segs := match zipS .and 300 [(64, c)] la with
  | some p => match zipS .and 300 [(64, c.neg)] lb with
    | some q => zipS .or 300 p q
    | none => none
  | none => none
def opqS (x : N) : Src := .s (.not x) 0 true
def eqRun : Nat → Src → Nat → Src
  | 0, _, _ => .k true
  | d + 1, s, c => andS (match Nat.beq (c % 2) 1 with | true => s.one 0 | false => (s.one 0).neg) (eqRun d (s.drop 1) (c / 2))
def litRun (b : Bool) (d : Nat) : Nat := match b with | true => ones d | false => 0
def spendS (n d : Nat) (s : Src) : Nat := match s with | .k _ => n | _ => n - d
/-- All bits are those of a literal. -/
def eqSeg : Nat → Segs → Nat → Option Src
  | _, [], c => some (.k (Nat.beq c 0))
  | n, (d, s) :: l, c => match eqSeg (spendS n d s) l (c / 2 ^ d) with
    | none => none
    | some r => match s with
      | .k b => match Nat.beq (c % 2 ^ d) (litRun b d) with
        | true => some r
        | false => some (.k false)
      | s => match Nat.ble d n with
        | true => some (andS (eqRun d s c) r)
        | false => none
def eqT (a b : N) (la : Segs) : Src := match b with
  | .lit n => match rng64 a (.lit n) with
    | true => match eqSeg 16 (segTake la 64) (lowOf .u64 n) with
      | some s => s
      | none => opqS (.eq a (.lit n))
    | false => opqS (.eq a (.lit n))
  | b => opqS (.eq a b)
/-- Is nothing left by a power of 2? -/
def remT (a b : N) (lx : Segs) : Option Src := match a with
  | .ar f _ x y => match f with
    | .rem => match b with
      | .lit n => match y with
        | .lit (.ofNat m) => match ieq n 0 && (powOf m && (in64 x && Nat.ble (Nat.log2 m) 63)) with
          | true => eqSeg 64 (segTake lx (Nat.log2 m)) 0
          | false => none
        | _ => none
      | _ => none
    | _ => none
  | _ => none
def orS2 (o : Option Src) (s : Src) : Src := match o with
  | some r => r
  | none => s
/-- The m low bits of a number, against those of a literal: are they more? -/
def gtL (la : Segs) (n : Nat) : Nat → Src
  | 0 => .k false
  | m + 1 => match Nat.beq (n / 2 ^ m % 2) 1 with
    | true => andS (segAt la m) (gtL la n m)
    | false => orS (segAt la m) (gtL la n m)
/-- Is a number more than a literal? -/
def gtX (x : N) (la : Segs) (n : Int) : Option Src := match nonneg64 x with
  | true => match n with
    | .ofNat m => match Nat.ble m 18446744073709551615 with
      | true => some (gtL la m 64)
      | false => none
    | .negSucc _ => some (.k true)
  | false => match in64 x with
    | true => match n with
      | .ofNat m => match Nat.ble m 9223372036854775807 with
        | true => some (andS (segAt la 63).neg (gtL la m 63))
        | false => none
      | .negSucc m => match Nat.ble m 9223372036854775807 with
        | true => some (orS (segAt la 63).neg (gtL la (9223372036854775807 - m) 63))
        | false => none
    | false => none
def orO (x : N) : Option Src → Src
  | some s => s
  | none => opqS x
def ltT (a b : N) (la lb : Segs) : Src := match b with
  | .lit n => orO (.lt a (.lit n)) (match gtX a la (n - 1) with | some s => some s.neg | none => none)
  | b => match a with
    | .lit n => orO (.lt (.lit n) b) (gtX b lb n)
    | a => opqS (.lt a b)
/-- Are all bits of a run 0? -/
def runZ (F : List Fct) (s : Src) : Nat → Nat → Option Bool
  | 0, _ => some true
  | d + 1, j => match ttS F s j with
    | some true => some false
    | some false => runZ F s d (j + 1)
    | none => none
def runZ1 (F : List Fct) (s : Src) (d : Nat) : Option Bool := match s with | .k false => some true | s => runZ F s d 0
def segsZ (F : List Fct) : Segs → Option Bool
  | [] => some true
  | (d, s) :: l => match runZ1 F s d with
    | some true => segsZ F l
    | r => r
/-- Are all bits of b bits of a? -/
def leB (k : IntKind) (a b : N) : Bool := match k with
  | .u64 => match b with
    | .ar g l x y => match g with
      | .and => match l with
        | .u64 => nonneg64 a && (N.same x a || N.same y a)
        | _ => false
      | .rem => match y with
        | .lit (.ofNat m) => nonneg64 a && (N.same x a && powOf m)
        | _ => false
      | _ => false
    | _ => false
  | _ => false
/-- Two numbers that have no bit in common, added. -/
def addD (k : IntKind) (la lb : Segs) : Option Segs := match k with
  | .u64 => match zipS .and 300 (segTake la 64) (segTake lb 64) with
    | some l => match segsZ [] l with
      | some true => zipS .or 300 (segTake la 64) (segTake lb 64)
      | _ => none
    | none => none
  | _ => none
def bmAr (f : BinOp) (k : IntKind) (a b : N) (la lb : Segs) : Option Segs := match f with
  | .sub => match leB k a b with
    | true => zipS .andNot 300 (segTake la 64) (segTake lb 64)
    | false => blAr .sub k a b la lb
  | .add => match blAr .add k a b la lb with
    | some l => some l
    | none => addD k la lb
  | f => blAr f k a b la lb
mutual
/-- The 64 low bits of a number. -/
def bm : N → Segs
  | .lit n => litSegs 64 (lowOf .u64 n)
  | .conv k a => segExt k (bm a)
  | .ar f k a b => orAtom (.ar f k a b) (bmAr f k a b (bm a) (bm b))
  | .ite c a b => orAtom (.ite c a b) (muxL ((tb c).one 0) (segTake (bm a) 64) (segTake (bm b) 64))
  | x => atomS x
/-- Is it another than 0? -/
def tb : N → Src
  | .lit n => .k (bNot (ieq n 0))
  | .not a => (tb a).neg
  | .ite c a b => muxS (tb c) (tb a) (tb b)
  | .eq a b => orS2 (remT a b (bx a)) (eqT a b (bm a))
  | .lt a b => ltT a b (bm a) (bm b)
  | x => opqS x
/-- The bits of what is reckoned on. -/
def bx : N → Segs
  | .ar _ _ a _ => bm a
  | _ => []
end
def hasIte : N → Bool
  | .ite _ _ _ => true
  | .ar _ _ a b => hasIte a || hasIte b
  | .conv _ a => hasIte a
  | .eq a b => hasIte a || hasIte b
  | .lt a b => hasIte a || hasIte b
  | .not a => hasIte a
  | .sel _ _ a _ _ => hasIte a
  | _ => false
def eqBits (F : List Fct) (a b : N) : Option Bool := match rng64 a b with
  | true => match zipS .xor 300 (segTake (bm a) 64) (segTake (bm b) 64) with
    | some l => segsZ F l
    | none => none
  | false => none
def isLitN : N → Bool
  | .lit _ => true
  | _ => false
def orElseB (a b : Option Bool) : Option Bool := match a with
  | some t => some t
  | none => b
def dcd (F : List Fct) (x : N) : Option Bool := match x with
  | .eq a b => match isLitN b with
    | true => orElseB (ttS F (tb (.eq a b)) 0) (eqBits F a b)
    | false => orElseB (eqBits F a b) (ttS F (tb (.eq a b)) 0)
  | x => ttS F (tb x) 0
def fctS (s : Src) : Fct := { src := s, ats := atomsS 0 s [] }
def fctOf (x : N) (t : Bool) : Fct := match t with
  | true => fctS (tb x)
  | false => fctS (tb x).neg
def opqA (a : Atm) : Bool := match a.1 with
  | .not (.eq _ _) => true
  | x => hasIte x
def anyOpq : List Atm → Bool
  | [] => false
  | a :: l => opqA a || anyOpq l
abbrev Kb := Bool → List Fct → Bool
/-- What holds, part by part. -/
def addS : Src → List Fct → List Fct
  | .o f u v, F => match f with
    | .and => addS u (addS v F)
    | g => fctS (.o g u v) :: F
  | s, F => fctS s :: F
/-- Both may be. -/
def splitS (s : Src) (F : List Fct) (k : Kb) : Bool := k true (addS s F) && k false (addS s.neg F)
/-- A bit, gone into as far as it is made of many. -/
def evS : Src → List Fct → Kb → Bool
  | .k b, F, k => k b F
  | .o f u v, F, k => match ttS F (.o f u v) 0 with
    | some t => k t F
    | none => match manyA (atomsS 0 (.o f u v) []) with
      | false => splitS (.o f u v) F k
      | true => match f with
        | .and => evS u F fun t F' => match t with
          | false => k false F'
          | true => evS v F' k
        | .or => evS u F fun t F' => match t with
          | true => k true F'
          | false => evS v F' k
        | .xor => evS u F fun t F' => evS v F' fun t' F'' => k (turnB t t') F''
        | _ => k false F
  | s, F, k => match ttS F s 0 with
    | some t => k t F
    | none => splitS s F k
def splitB (x : N) (F : List Fct) (k : Kb) : Bool := evS (tb x) F k
def baseB (x : N) (F : List Fct) (k : Kb) : Bool := match dcd F x with
  | some t => k t F
  | none => splitB x F k
def eqB (a b : N) (F : List Fct) (k : Kb) : Bool := match a, b with
  | .lit x, .lit y => k (ieq x y) F
  | a, b => baseB (.eq a b) F k
mutual
def evB : N → List Fct → Kb → Bool
  | .lit n, F, k => k (bNot (ieq n 0)) F
  | .not a, F, k => evB a F fun t F' => k (bNot t) F'
  | .ite c a b, F, k => match anyOpq (atomsS 0 (tb (.ite c a b)) []) with
    | true => evB c F fun t F' => match t with
      | true => evB a F' k
      | false => evB b F' k
    | false => match dcd F (.ite c a b) with
      | some t => k t F
      | none => match manyA (atomsS 0 (tb (.ite c a b)) []) with
        | false => splitB (.ite c a b) F k
        | true => evB c F fun t F' => match t with
          | true => evB a F' k
          | false => evB b F' k
  | .eq a b, F, k => match dcd F (.eq a b) with
    | some t => k t F
    | none => match hasIte a || hasIte b with
      | true => evN a F fun x F' => evN b F' fun y F'' => eqB x y F'' k
      | false => splitB (.eq a b) F k
  | x, F, k => baseB x F k
def evN : N → List Fct → (N → List Fct → Bool) → Bool
  | .ite c a b, F, k => evB c F fun t F' => match t with
    | true => evN a F' k
    | false => evN b F' k
  | .conv l a, F, k => match hasIte a with
    | true => evN a F fun x F' => k (.conv l x) F'
    | false => k (.conv l a) F
  | .ar f l a b, F, k => match hasIte a || hasIte b with
    | true => evN a F fun x F' => evN b F' fun y F'' => k (.ar f l x y) F''
    | false => k (.ar f l a b) F
  | x, F, k => k x F
end
/-- Bits that are 0, each told. -/
def addZ1 (s : Src) : Nat → Nat → List Fct → List Fct
  | 0, _, F => F
  | d + 1, j, F => addS ((s.one j).neg) (addZ1 s d (j + 1) F)
def addZ : Segs → List Fct → List Fct
  | [], F => F
  | (d, s) :: l, F => match s with
    | .k false => addZ l F
    | s => addZ1 s d 0 (addZ l F)
/-- Two numbers that are the same, bit by bit. -/
def eqFs (x : N) (t : Bool) (F : List Fct) : Option (List Fct) := match x, t with
  | .eq a b, true => match (isLitN b || (hasIte a || hasIte b)) || !(rng64 a b) with
    | true => none
    | false => match zipS .xor 300 (segTake (bm a) 64) (segTake (bm b) 64) with
      | some l => some (addZ l F)
      | none => none
  | _, _ => none
def allSmall : Src → Bool
  | .o f u v => match f with
    | .and => allSmall u && allSmall v
    | g => !(manyA (atomsS 0 (.o g u v) []))
  | _ => true
/-- Truths are taken one after another: small ones as they are. -/
def goF (k : List Fct → Bool) : Pc → List Fct → Bool
  | [], F => match F.any (clash F) with
    | true => true
    | false => k F
  | (x, t) :: l, F => match (match allSmall (fctOf x t).src with | true => false | false => true) || anyOpq (fctOf x t).ats with
      | false => goF k l (addS (fctOf x t).src F)
      | true => match eqFs x t F with
        | some F' => goF k l F'
        | none => evB x F fun u F' => match bSame u t with
          | true => goF k l F'
          | false => true
/-- Great orders are looked at last. -/
def isLt (x : N) : Bool := match x with
  | .lt _ _ => manyA (atomsS 0 (tb x) [])
  | _ => false
def ltsOf (b : Bool) : Pc → Pc
  | [] => []
  | (x, t) :: l => match bSame (isLt x) b with
    | true => (x, t) :: ltsOf b l
    | false => ltsOf b l
/-- Equalities to literals first. -/
def eqsOf : Pc → Pc
  | [] => []
  | (x, t) :: l => match x, t with
    | .eq (.var i lo hi) (.lit n), true => (.eq (.var i lo hi) (.lit n), true) :: eqsOf l
    | _, _ => eqsOf l
/-- One variable is another: it is put for it. -/
def rnN (a b : N) : N → N
  | .lit n => .lit n
  | .var j lo hi => match N.same a (.var j lo hi) with | true => b | false => .var j lo hi
  | .ar f k x y => .ar f k (rnN a b x) (rnN a b y)
  | .conv k x => .conv k (rnN a b x)
  | .eq x y => .eq (rnN a b x) (rnN a b y)
  | .lt x y => .lt (rnN a b x) (rnN a b y)
  | .not x => .not (rnN a b x)
  | .ite c x y => .ite (rnN a b c) (rnN a b x) (rnN a b y)
  | .sel q s x lo hi => .sel q s (rnN a b x) lo hi
def rnPc (a b : N) : Pc → Pc
  | [] => []
  | (x, t) :: l => (rnN a b x, t) :: rnPc a b l
def rnOf : Pc → Option (N × N)
  | [] => none
  | (x, t) :: l => match x, t with
    | .eq (.var i lo hi) (.var j lo2 hi2), true => some (.var i lo hi, .var j lo2 hi2)
    | _, _ => rnOf l
/-! At the end: bits that are told, one after another -/
def keepA (A : Asg) : List Atm → List Atm
  | [] => []
  | a :: l => match lookA a A with | some _ => keepA A l | none => a :: keepA A l
def relU (A : Asg) (un : List Atm) : List Fct → List Fct
  | [] => []
  | f :: l => match keepA A f.ats with
    | [] => relU A un l
    | u => match subA u un with | true => f :: relU A un l | false => relU A un l
def forceF (R : List Fct) (un : List Atm) : List Atm → Asg → Asg
  | [], A => A
  | a :: l, A => forceF R un l (match en R (.s a.1 a.2 false) 0 (keepA A un) A with
    | (true, true) => A
    | (false, true) => (a, false) :: A
    | (_, false) => (a, true) :: A)
def roundF (F : List Fct) : List Fct → Asg → Asg
  | [], A => A
  | f :: l, A => match keepA A f.ats with
    | [] => roundF F l A
    | un => match manyA un with
      | true => roundF F l A
      | false => roundF F l (forceF (relU A un F) un un A)
def asgF : Asg → List Fct → List Fct
  | [], F => F
  | (a, b) :: l, F => fctS (.s a.1 a.2 (bNot b)) :: asgF l F
/-- Equalities that are not so. -/
def negEqs : Pc → Pc
  | [] => []
  | (x, t) :: l => match x, t with
    | .eq a b, false => match isLitN b with
      | true => negEqs l
      | false => (.eq a b, false) :: negEqs l
    | _, _ => negEqs l
def endF (pc : Pc) (F : List Fct) : Bool := match roundF F F (roundF F F []) with
  | A => match okF A F with
    | false => true
    | true => goF (fun _ => false) (negEqs pc) (asgF A F)
def fiveA : List Atm → Bool
  | _ :: _ :: _ :: _ :: _ :: _ => true
  | _ => false
/-- One that holds of two. -/
def pickOr : List Fct → Option (Src × Src × List Fct)
  | [] => none
  | f :: l => match (match f.src, fiveA f.ats with
    | .o .or u v, true => some (u, v)
    | _, _ => none) with
    | some (u, v) => some (u, v, l)
    | none => match pickOr l with
      | some (u, v, r) => some (u, v, f :: r)
      | none => none
def endS (pc : Pc) : Nat → List Fct → Bool
  | 0, F => endF pc F
  | n + 1, F => match endF pc F with
    | true => true
    | false => match pickOr F with
      | some (u, v, r) => endS pc n (addS u r) && endS pc n (addS v r)
      | none => false
def refute0 (pc : Pc) : Bool := goF (goF (goF (endS pc 4) (ltsOf false (revP [] pc))) (ltsOf true pc)) (eqsOf pc ++ ltsOf false (revP [] pc)) []
def refute (pc : Pc) : Bool := match rnOf pc with
  | none => refute0 pc
  | some (a, b) => refute0 (rnPc a b pc)

/-! What is told so is so -/
variable {e : Nat → Int}
def aBit (e : Nat → Int) (a : Atm) : Bool := atomBit e a.1 a.2
theorem atmSame_eq {a b : Atm} (h : atmSame a b = true) : a = b := by
  unfold atmSame at h
  rw [Bool.and_eq_true] at h
  exact Prod.ext (N.same_eq h.2) (Nat.eq_of_beq_eq_true h.1)
def AOk (e : Nat → Int) (A : Asg) : Prop := ∀ a b, (a, b) ∈ A → aBit e a = b
theorem lookA_ok {a : Atm} : ∀ {A : Asg} {b : Bool}, AOk e A → lookA a A = some b → aBit e a = b
  | (c, t) :: l, b, h, hl => by
    simp only [lookA] at hl
    split at hl
    · rename_i hs
      have := atmSame_eq hs
      subst this
      cases hl
      exact h _ _ (by simp)
    · exact lookA_ok (fun a b hm => h a b (List.mem_cons_of_mem _ hm)) hl
theorem turnB_eq (g t : Bool) : turnB g t = (g ^^ t) := by cases g <;> cases t <;> rfl
theorem evalS_ok {A : Asg} (h : AOk e A) (j : Nat) : ∀ (s : Src) {b : Bool}, evalS A j s = some b → s.bit e j = b
  | .k c, b, hb => by simp only [evalS, Option.some.injEq] at hb; exact hb
  | .s x a g, b, hb => by
    simp only [evalS] at hb
    split at hb
    · rename_i t ht
      cases hb
      have := lookA_ok h ht
      rw [turnB_eq, ← this]; rfl
    · cases hb
  | .r x a g, b, hb => by
    simp only [evalS] at hb
    split at hb
    · rename_i t ht
      cases hb
      have := lookA_ok h ht
      rw [turnB_eq, ← this]; rfl
    · cases hb
  | .o f u v, b, hb => by
    have hu := fun {b} => evalS_ok h j u (b := b)
    have hv := fun {b} => evalS_ok h j v (b := b)
    cases f <;> simp only [evalS] at hb <;> try (cases hb; done)
    all_goals
      cases h1 : evalS A j u <;> cases h2 : evalS A j v <;> simp only [h1, h2] at hb <;> try (cases hb; done)
    all_goals
      (try have e1 := hu h1)
      (try have e2 := hv h2)
      simp only [Src.bit]
      (try rename_i p q; cases p <;> cases q <;> simp_all [turnB, bNot])
      (try rename_i p; cases p <;> simp_all [turnB, bNot])
def FOk (e : Nat → Int) (F : List Fct) : Prop := ∀ f ∈ F, f.src.bit e 0 = true
theorem relF_mem {ats : List Atm} : ∀ {F : List Fct} {f : Fct}, f ∈ relF ats F → f ∈ F
  | g :: l, f, h => by
    simp only [relF] at h
    split at h
    · rcases List.mem_cons.1 h with rfl | h
      · simp
      · exact List.mem_cons_of_mem _ (relF_mem h)
    · exact List.mem_cons_of_mem _ (relF_mem h)
theorem okF_ok {A : Asg} (h : AOk e A) : ∀ {R : List Fct}, FOk e R → okF A R = true
  | [], _ => rfl
  | f :: l, hR => by
    simp only [okF]
    have hf := hR f (by simp)
    split
    · rename_i hq
      have := evalS_ok h 0 _ hq
      rw [hf] at this; cases this
    · exact okF_ok h fun g hg => hR g (List.mem_cons_of_mem _ hg)
theorem en_ok {R : List Fct} (hR : FOk e R) (s : Src) (j : Nat) : ∀ (ats : List Atm) (A : Asg), AOk e A → (s.bit e j = true → (en R s j ats A).1 = true) ∧ (s.bit e j = false → (en R s j ats A).2 = true)
  | [], A, h => by
    simp only [en, okF_ok h hR]
    cases hq : evalS A j s with
    | none => exact ⟨fun _ => rfl, fun _ => rfl⟩
    | some b =>
      have := evalS_ok h j s hq
      cases b
      · exact ⟨fun hs => (by rw [this] at hs; cases hs), fun _ => rfl⟩
      · exact ⟨fun _ => rfl, fun hs => (by rw [this] at hs; cases hs)⟩
  | a :: l, A, h => by
    have ext : ∀ b, aBit e a = b → AOk e ((a, b) :: A) := fun b hb c d hm => by
      rcases List.mem_cons.1 hm with heq | hm
      · cases heq; exact hb
      · exact h c d hm
    simp only [en]
    cases h1 : en R s j l ((a, true) :: A) with
    | mk p q =>
      cases h2 : en R s j l ((a, false) :: A) with
      | mk u v =>
        cases hb : aBit e a with
        | true =>
          have := en_ok hR s j l _ (ext true hb)
          rw [h1] at this
          cases p <;> cases q <;> simp_all
        | false =>
          have := en_ok hR s j l _ (ext false hb)
          rw [h2] at this
          cases p <;> cases q <;> simp_all
theorem ttS_ok {F : List Fct} (hF : FOk e F) {s : Src} {j : Nat} {t : Bool} (h : ttS F s j = some t) : s.bit e j = t := by
  unfold ttS at h
  split at h
  · cases h; rfl
  · unfold ttG at h
    split at h
    · cases h
    · have := en_ok (e := e) (R := relF (atomsS j s []) F) (fun f hf => hF f (relF_mem hf)) s j (atomsS j s []) [] (fun _ _ hm => by cases hm)
      cases hen : en (relF (atomsS j s []) F) s j (atomsS j s []) [] with
      | mk p q =>
        simp only [hen] at h this
        cases hb : s.bit e j <;> cases p <;> cases q <;> simp_all
theorem clash_ok {F : List Fct} (hF : FOk e F) {f : Fct} (h : clash F f = true) : False := by
  unfold clash at h
  split at h
  · cases h
  · have := en_ok (e := e) (R := relF f.ats F) (fun g hg => hF g (relF_mem hg)) f.src 0 f.ats [] (fun _ _ hm => by cases hm)
    cases hen : en (relF f.ats F) f.src 0 f.ats [] with
    | mk p q =>
      rw [hen] at h this
      cases hb : f.src.bit e 0 <;> cases p <;> cases q <;> simp_all
theorem andS_bit (u v : Src) (j : Nat) : (andS u v).bit e j = (u.bit e j && v.bit e j) := by
  unfold andS
  split
  · simp [Src.bit]
  · simp [Src.bit]
  · split <;> simp [Src.bit]
theorem orS_bit (u v : Src) (j : Nat) : (orS u v).bit e j = (u.bit e j || v.bit e j) := by
  unfold orS
  split
  · simp [Src.bit]
  · simp [Src.bit]
  · split <;> simp [Src.bit]
theorem muxS_bit (c a b : Src) (j : Nat) : (muxS c a b).bit e j = (match c.bit e j with | true => a.bit e j | false => b.bit e j) := by
  unfold muxS
  split
  · rename_i h
    rw [Src.same_eq h]
    cases c.bit e j <;> rfl
  · rw [orS_bit, andS_bit, andS_bit, Src.neg_bit]
    cases c.bit e j <;> cases a.bit e j <;> cases b.bit e j <;> rfl
theorem bit_of (b : Bool) : (lowOf .u64 (bI b)).testBit 0 = b := by cases b <;> rfl
theorem opqS_bit (x : N) : (opqS x).bit e 0 = bNot (ieq (x.den e) 0) := by
  simp only [opqS, Src.bit, atomBit, N.den, Nat.zero_add]
  rw [bit_of, bNot_eq, Bool.true_xor]
theorem eqRun_bit : ∀ (d : Nat) (s : Src) (c : Nat), (eqRun d s c).bit e 0 = true ↔ ∀ j, j < d → s.bit e j = c.testBit j
  | 0, s, c => by simp [eqRun, Src.bit]
  | d + 1, s, c => by
    simp only [eqRun]
    rw [andS_bit, Bool.and_eq_true, eqRun_bit d]
    have h0 : (match Nat.beq (c % 2) 1 with | true => s.one 0 | false => (s.one 0).neg).bit e 0 = true ↔ s.bit e 0 = c.testBit 0 := by
      have := testBit_halve c 0
      rw [if_pos rfl] at this
      rw [this]
      cases Nat.beq (c % 2) 1
      · show ((s.one 0).neg).bit e 0 = true ↔ _
        rw [Src.neg_bit, Src.one_bit]; cases s.bit e 0 <;> simp
      · show (s.one 0).bit e 0 = true ↔ _
        rw [Src.one_bit]
    rw [h0]
    constructor
    · rintro ⟨h1, h2⟩ j hj
      cases j with
      | zero => exact h1
      | succ j =>
        have := h2 j (by omega)
        rw [Src.drop_bit, Nat.add_comm] at this
        rw [this, testBit_halve c (j + 1), if_neg (by omega)]; rfl
    · intro h
      refine ⟨h 0 (by omega), fun j hj => ?_⟩
      rw [Src.drop_bit, Nat.add_comm, h (j + 1) (by omega), testBit_halve c (j + 1), if_neg (by omega)]; rfl
theorem testBit_div (c d j : Nat) : (c / 2 ^ d).testBit j = c.testBit (d + j) := by
  rw [← Nat.shiftRight_eq_div_pow, Nat.testBit_shiftRight]
theorem eqSeg_bit : ∀ (l : Segs) (n c : Nat) {s : Src}, eqSeg n l c = some s → (s.bit e 0 = true ↔ ∀ j, segBit e l j = c.testBit j)
  | [], n, c, s, h => by
    simp only [eqSeg, Option.some.injEq] at h
    subst h
    simp only [Src.bit, segBit]
    constructor
    · intro hc j
      have := Nat.eq_of_beq_eq_true hc
      subst this; simp
    · intro hj
      have : c = 0 := Nat.eq_of_testBit_eq fun j => by rw [← hj j]; simp
      subst this; rfl
  | (d, s) :: l, n, c, r, h => by
    have step : ∀ {P : Prop}, (P ↔ ∀ j, j < d → s.bit e j = c.testBit j) → ∀ {Q : Prop}, (Q ↔ ∀ j, segBit e l j = (c / 2 ^ d).testBit j) → (P ∧ Q ↔ ∀ j, segBit e ((d, s) :: l) j = c.testBit j) := by
      intro P hP Q hQ
      rw [hP, hQ]
      constructor
      · rintro ⟨h1, h2⟩ j
        simp only [segBit]
        by_cases hj : j < d
        · rw [if_pos hj, h1 j hj]
        · rw [if_neg hj, h2, testBit_div, show d + (j - d) = j by omega]
      · intro h
        refine ⟨fun j hj => ?_, fun j => ?_⟩
        · have := h j; simp only [segBit] at this; rwa [if_pos hj] at this
        · have := h (d + j); simp only [segBit] at this
          rw [if_neg (by omega), show d + j - d = j by omega] at this
          rw [this, testBit_div]
    simp only [eqSeg] at h
    split at h
    · cases h
    · rename_i r' hr
      have ih := eqSeg_bit l _ _ hr
      split at h
      · rename_i b
        have run : (c % 2 ^ d = litRun b d) ↔ ∀ j, j < d → (Src.k b).bit e j = c.testBit j := by
          simp only [Src.bit]
          constructor
          · intro hc j hj
            have h1 : (c % 2 ^ d).testBit j = c.testBit j := by rw [Nat.testBit_mod_two_pow]; simp [hj]
            rw [← h1, hc]
            cases b
            · simp [litRun]
            · show true = (ones d).testBit j
              rw [ones_bit]; simp [hj]
          · intro hj
            refine Nat.eq_of_testBit_eq fun j => ?_
            rw [Nat.testBit_mod_two_pow]
            by_cases hd : j < d
            · rw [← hj j hd]
              cases b
              · simp [litRun, hd]
              · show _ = (ones d).testBit j
                rw [ones_bit]; simp [hd]
            · cases b
              · simp [litRun, hd]
              · show _ = (ones d).testBit j
                rw [ones_bit]; simp [hd]
        split at h
        · rename_i hb
          cases h
          rw [← step run ih]
          exact ⟨fun hr => ⟨Nat.eq_of_beq_eq_true hb, hr⟩, fun hr => hr.2⟩
        · rename_i hb
          cases h
          rw [← step run ih]
          simp only [Src.bit, Bool.false_eq_true, false_iff]
          rintro ⟨h1, _⟩
          rw [h1, Nat.beq_refl] at hb; cases hb
      · split at h
        · cases h
          rw [andS_bit, Bool.and_eq_true, ← step (eqRun_bit d _ c) ih]
        · cases h
theorem bool_ext {a b : Bool} (h : a = true ↔ b = true) : a = b := by cases a <;> cases b <;> simp_all
theorem eqT_bit {a b : N} {la : Segs} (ha : Tells e la (a.den e)) : (eqT a b la).bit e 0 = bNot (ieq ((N.eq a b).den e) 0) := by
  unfold eqT
  split
  · rename_i n
    split
    · rename_i hr
      split
      · rename_i s hs
        have := eqSeg_bit (e := e) _ _ _ hs
        apply bool_ext
        rw [this, bNot_eq, Bool.not_eq_true', ieq_false]
        simp only [N.den, ne_eq]
        rw [show (bI (ieq (a.den e) n) = 0 ↔ ¬ a.den e = n) from by
          rw [← ieq_iff (a.den e) n]; cases ieq (a.den e) n <;> simp [bI]]
        rw [Classical.not_not]
        have tk : ∀ j, segBit e (segTake la 64) j = (lowOf .u64 (a.den e)).testBit j := fun j => by
          rw [segTake_bit]
          by_cases hj : j < 64
          · rw [if_pos hj, ha j hj]
          · rw [if_neg hj, testBit_ge (low64_lt _) (by omega)]
        constructor
        · intro h
          exact rng64_ok (b := .lit n) hr (Nat.eq_of_testBit_eq fun j => by rw [← tk j, h j]; rfl)
        · intro h j; rw [tk j, h]
      · exact opqS_bit _
    · exact opqS_bit _
  · exact opqS_bit _
theorem testBit_halve_top {y : Nat} (h : y < 18446744073709551616) : y.testBit 63 = decide (9223372036854775808 ≤ y) := by
  rw [Nat.testBit_eq_decide_div_mod_eq]
  have : (2 : Nat) ^ 63 = 9223372036854775808 := rfl
  rw [this]
  congr 1
  apply propext
  omega
theorem gtL_bit {la : Segs} {y : Nat} {M : Nat} (h : ∀ j, j < M → segBit e la j = y.testBit j) (n : Nat) : ∀ m, m ≤ M → ((gtL la n m).bit e 0 = true ↔ n % 2 ^ m < y % 2 ^ m)
  | 0, _ => by simp [gtL, Src.bit, Nat.mod_one]
  | m + 1, hm => by
    have ih := gtL_bit h n m (by omega)
    have hb := h m (by omega)
    have e1 : y % 2 ^ (m + 1) = y % 2 ^ m + 2 ^ m * (y / 2 ^ m % 2) := by rw [Nat.pow_succ, Nat.mod_mul]
    have e2 : n % 2 ^ (m + 1) = n % 2 ^ m + 2 ^ m * (n / 2 ^ m % 2) := by rw [Nat.pow_succ, Nat.mod_mul]
    have l1 : y % 2 ^ m < 2 ^ m := Nat.mod_lt _ (Nat.two_pow_pos m)
    have l2 : n % 2 ^ m < 2 ^ m := Nat.mod_lt _ (Nat.two_pow_pos m)
    have hy : y.testBit m = true ↔ y / 2 ^ m % 2 = 1 := by rw [Nat.testBit_eq_decide_div_mod_eq]; exact decide_eq_true_iff
    have q1 : y / 2 ^ m % 2 = 0 ∨ y / 2 ^ m % 2 = 1 := by omega
    have q2 : n / 2 ^ m % 2 = 0 ∨ n / 2 ^ m % 2 = 1 := by omega
    rw [e1, e2]
    simp only [gtL]
    rcases q2 with q2 | q2
    · rw [q2]
      show (orS (segAt la m) (gtL la n m)).bit e 0 = true ↔ _
      rw [orS_bit, Bool.or_eq_true, ih, segAt_bit, hb, hy]
      clear e1 e2 ih hb hy h
      rcases q1 with q1 | q1
      · rw [q1, Nat.mul_zero]; constructor
        · rintro (h | h)
          · cases h
          · omega
        · intro h; right; omega
      · rw [q1, Nat.mul_zero, Nat.mul_one]
        exact ⟨fun _ => by omega, fun _ => .inl rfl⟩
    · rw [q2]
      show (andS (segAt la m) (gtL la n m)).bit e 0 = true ↔ _
      rw [andS_bit, Bool.and_eq_true, ih, segAt_bit, hb, hy]
      clear e1 e2 ih hb hy h
      rcases q1 with q1 | q1
      · rw [q1, Nat.mul_zero, Nat.mul_one]
        exact ⟨fun h => (by cases h.1), fun h => (by omega)⟩
      · rw [q1, Nat.mul_one]
        exact ⟨fun h => by have := h.2; omega, fun h => ⟨rfl, by omega⟩⟩
theorem gtX_bit {x : N} {la : Segs} (ha : Tells e la (x.den e)) {n : Int} {s : Src} (h : gtX x la n = some s) : s.bit e 0 = true ↔ n < x.den e := by
  unfold gtX at h
  split at h
  · rename_i hx
    obtain ⟨y, hy, ly⟩ := nonneg64_ok e hx
    split at h
    · rename_i m
      split at h
      · rename_i hm
        cases h
        have hm := Nat.le_of_ble_eq_true hm
        rw [gtL_bit (y := y) (M := 64) (fun j hj => by rw [ha j hj, hy, nat_low ly]) m 64 (Nat.le_refl _), hy]
        rw [Nat.mod_eq_of_lt ly, Nat.mod_eq_of_lt (by rw [two64]; omega)]
        exact Int.ofNat_lt.symm
      · cases h
    · rename_i m
      cases h
      simp only [Src.bit, hy, true_iff]
      omega
  · split at h
    · rename_i hx
      have hr := in64_ok e hx
      have hl := lowOf_eq .u64 (x.den e)
      simp only [span] at hl
      have hb : ∀ j, j < 64 → segBit e la j = (lowOf .u64 (x.den e)).testBit j := fun j hj => ha j hj
      have hlt := low64_lt (x.den e)
      rw [two64] at hlt
      have top : (lowOf .u64 (x.den e)).testBit 63 = decide (9223372036854775808 ≤ lowOf .u64 (x.den e)) := by
        rw [testBit_halve_top (by omega)]
      have p63 : (2 : Nat) ^ 63 = 9223372036854775808 := rfl
      split at h
      · rename_i m
        split at h
        · rename_i hm
          cases h
          have hm := Nat.le_of_ble_eq_true hm
          rw [andS_bit, Bool.and_eq_true, Src.neg_bit, segAt_bit, hb 63 (by omega), top, gtL_bit (y := lowOf .u64 (x.den e)) (M := 64) hb m 63 (by omega), p63]
          simp only [Bool.not_eq_true', decide_eq_false_iff_not]
          show _ ↔ (m : Int) < x.den e
          omega
        · cases h
      · rename_i m
        split at h
        · rename_i hm
          cases h
          have hm := Nat.le_of_ble_eq_true hm
          rw [orS_bit, Bool.or_eq_true, Src.neg_bit, segAt_bit, hb 63 (by omega), top, gtL_bit (y := lowOf .u64 (x.den e)) (M := 64) hb _ 63 (by omega), p63]
          simp only [Bool.not_eq_true', decide_eq_false_iff_not]
          rw [show Int.negSucc m = -(m : Int) - 1 by omega]
          omega
        · cases h
    · cases h
theorem bI_lt (a b : Int) : bNot (ieq (bI (ilt a b)) 0) = true ↔ a < b := by
  rw [← ilt_iff]; cases ilt a b <;> simp [bI, bNot, ieq]
theorem rem_zero {x : Int} (hr : -9223372036854775808 ≤ x ∧ x ≤ 9223372036854775807) {p : Nat} (hp : p ≤ 63) : x.tmod ((2 ^ p : Nat) : Int) = 0 ↔ ∀ j, j < p → (lowOf .u64 x).testBit j = false := by
  have hd : ((2 ^ p : Nat) : Int) ∣ x ↔ 2 ^ p ∣ lowOf .u64 x := by
    have hl : ((lowOf .u64 x : Nat) : Int) = x % ((2 ^ 64 : Nat) : Int) := lowOf_eq .u64 x
    have h64 : ((2 ^ p : Nat) : Int) ∣ ((2 ^ 64 : Nat) : Int) := Int.ofNat_dvd.2 (Nat.pow_dvd_pow 2 (by omega))
    have he := Int.emod_emod_of_dvd x h64
    rw [← hl] at he
    rw [← Int.ofNat_dvd]
    constructor
    · intro h; exact Int.dvd_of_emod_eq_zero (by rw [he]; exact Int.emod_eq_zero_of_dvd h)
    · intro h; exact Int.dvd_of_emod_eq_zero (by rw [← he]; exact Int.emod_eq_zero_of_dvd h)
  rw [← Int.dvd_iff_tmod_eq_zero, hd]
  constructor
  · rintro ⟨q, hq⟩ j hj
    rw [hq, Nat.testBit_two_pow_mul]; simp; omega
  · intro h
    refine Nat.dvd_of_mod_eq_zero (Nat.eq_of_testBit_eq fun j => ?_)
    rw [Nat.testBit_mod_two_pow, Nat.zero_testBit]
    by_cases hj : j < p
    · rw [h j hj]; simp
    · simp [hj]
theorem remT_bit {f : BinOp} {k : IntKind} {x y b : N} {lx : Segs} {s : Src} (hx : Tells e lx (x.den e)) (h : remT (.ar f k x y) b lx = some s) : s.bit e 0 = bNot (ieq ((N.eq (.ar f k x y) b).den e) 0) := by
  simp only [remT] at h
  · split at h
    · split at h
      · rename_i n
        split at h
        · rename_i m
          split at h
          · rename_i hc
            rw [Bool.and_eq_true, Bool.and_eq_true, Bool.and_eq_true, ieq_iff] at hc
            obtain ⟨h0, hpw, hin, hle⟩ := hc
            subst h0
            have hp : 2 ^ Nat.log2 m = m := by
              unfold powOf at hpw
              exact Nat.eq_of_beq_eq_true hpw
            have hle := Nat.le_of_ble_eq_true hle
            have hr := in64_ok e hin
            apply bool_ext
            rw [eqSeg_bit _ _ _ h]
            show _ ↔ bNot (ieq (bI (ieq ((x.den e).tmod (Int.ofNat m)) 0)) 0) = true
            have : bNot (ieq (bI (ieq ((x.den e).tmod (Int.ofNat m)) 0)) 0) = true ↔ (x.den e).tmod (Int.ofNat m) = 0 := by
              rw [← ieq_iff]; cases ieq ((x.den e).tmod (Int.ofNat m)) 0 <;> simp [bI, bNot, ieq]
            rw [this]
            have hz := rem_zero hr hle
            rw [hp] at hz
            rw [show (Int.ofNat m) = (m : Int) from rfl, hz]
            constructor
            · intro h2 j hj
              have := h2 j
              rw [segTake_bit, if_pos hj, hx j (by omega)] at this
              rw [this]; simp
            · intro h2 j
              rw [segTake_bit]
              by_cases hj : j < Nat.log2 m
              · rw [if_pos hj, hx j (by omega), h2 j hj]; simp
              · rw [if_neg hj]; simp
          · cases h
        · cases h
      · cases h
    · cases h
theorem ltT_bit {a b : N} {la lb : Segs} (ha : Tells e la (a.den e)) (hb : Tells e lb (b.den e)) : (ltT a b la lb).bit e 0 = bNot (ieq ((N.lt a b).den e) 0) := by
  unfold ltT
  split
  · rename_i n
    split
    · rename_i s hs
      unfold orO
      apply bool_ext
      rw [Src.neg_bit]
      have := gtX_bit ha hs
      show (!s.bit e 0) = true ↔ bNot (ieq (bI (ilt (a.den e) n)) 0) = true
      rw [bI_lt, Bool.not_eq_true', ← Bool.not_eq_true, this]
      omega
    · exact opqS_bit _
  · split
    · rename_i n
      cases hg : gtX b lb n with
      | none => exact opqS_bit _
      | some s =>
        unfold orO
        apply bool_ext
        show s.bit e 0 = true ↔ bNot (ieq (bI (ilt n (b.den e))) 0) = true
        rw [bI_lt, gtX_bit hb hg]
    · exact opqS_bit _
theorem tb_eq (x : N) (t : Bool) (h : (tb x).bit e 0 = bNot (ieq (x.den e) 0)) : ((tb x).bit e 0 = t) ↔ (t = true ↔ x.den e ≠ 0) := by
  rw [h, bNot_eq]
  cases hq : ieq (x.den e) 0
  · rw [ieq_false] at hq; cases t <;> simp [hq]
  · rw [ieq_iff] at hq; cases t <;> simp [hq]
theorem sub_xor {a b : Nat} (ha : a < 2 ^ 64) (hb : ∀ j, b.testBit j = true → a.testBit j = true) : b ≤ a ∧ ∀ j, (a - b).testBit j = (a.testBit j && !(b.testBit j)) := by
  have hb64 : b < 2 ^ 64 := Nat.lt_of_le_of_lt (sub_le hb) ha
  have hx : a ^^^ b < 2 ^ 64 := Nat.xor_lt_two_pow ha hb64
  have hs : b + (a ^^^ b) = a := by
    rw [add_or hb64 hx (fun j => by
      rw [Nat.testBit_xor]
      cases h1 : b.testBit j
      · rfl
      · rw [hb j h1]; rfl)]
    refine Nat.eq_of_testBit_eq fun j => ?_
    rw [Nat.testBit_or, Nat.testBit_xor]
    cases h1 : b.testBit j
    · cases a.testBit j <;> rfl
    · rw [hb j h1]; rfl
  have he : a - b = a ^^^ b := by omega
  refine ⟨by omega, fun j => ?_⟩
  rw [he, Nat.testBit_xor]
  cases h1 : b.testBit j
  · cases a.testBit j <;> rfl
  · rw [hb j h1]; rfl
theorem leB_ok {k : IntKind} {a b : N} (h : leB k a b = true) : k = .u64 ∧ ∃ y z : Nat, a.den e = (y : Int) ∧ b.den e = (z : Int) ∧ y < 2 ^ 64 ∧ ∀ j, z.testBit j = true → y.testBit j = true := by
  unfold leB at h
  split at h
  · split at h
    · rename_i g l x y
      split at h
      · split at h
        · rw [Bool.and_eq_true, Bool.or_eq_true] at h
          obtain ⟨v, hv, lv⟩ := nonneg64_ok e h.1
          refine ⟨rfl, v, Nat.land (lowOf .u64 (x.den e)) (lowOf .u64 (y.den e)), hv, rfl, lv, fun j hj => ?_⟩
          have hj : ((lowOf .u64 (x.den e)) &&& (lowOf .u64 (y.den e))).testBit j = true := hj
          rw [Nat.testBit_and, Bool.and_eq_true] at hj
          rcases h.2 with hs | hs
          · have hs := N.same_eq hs; subst hs
            have := hj.1; rwa [hv, nat_low lv] at this
          · have hs := N.same_eq hs; subst hs
            have := hj.2; rwa [hv, nat_low lv] at this
        · cases h
      · split at h
        · rename_i m
          rw [Bool.and_eq_true, Bool.and_eq_true] at h
          obtain ⟨v, hv, lv⟩ := nonneg64_ok e h.1
          have hs := N.same_eq h.2.1
          subst hs
          have hp : 2 ^ Nat.log2 m = m := by
            have := h.2.2
            unfold powOf at this
            exact Nat.eq_of_beq_eq_true this
          refine ⟨rfl, v, v % m, hv, ?_, lv, fun j hj => ?_⟩
          · show (x.den e).tmod (Int.ofNat m) = _
            rw [hv]; rfl
          · rw [← hp, Nat.testBit_mod_two_pow, Bool.and_eq_true] at hj
            exact hj.2
        · cases h
      · cases h
    · cases h
  · cases h
theorem runZ_ok {F : List Fct} (hF : FOk e F) {s : Src} : ∀ (d j : Nat) {t : Bool}, runZ F s d j = some t → (t = true → ∀ i, i < d → s.bit e (j + i) = false) ∧ (t = false → ∃ i, i < d ∧ s.bit e (j + i) = true)
  | 0, j, t, h => by simp only [runZ, Option.some.injEq] at h; subst h; exact ⟨fun _ i hi => by omega, fun h => by cases h⟩
  | d + 1, j, t, h => by
    simp only [runZ] at h
    split at h
    · rename_i hq
      cases h
      exact ⟨fun h => (by cases h), fun _ => ⟨0, by omega, ttS_ok hF hq⟩⟩
    · rename_i hq
      have ih := runZ_ok hF d (j + 1) h
      have h0 := ttS_ok hF hq
      refine ⟨fun ht i hi => ?_, fun ht => ?_⟩
      · cases i with
        | zero => exact h0
        | succ i => have := ih.1 ht i (by omega); rwa [show j + 1 + i = j + (i + 1) by omega] at this
      · obtain ⟨i, hi, hb⟩ := ih.2 ht
        exact ⟨i + 1, by omega, by rwa [show j + 1 + i = j + (i + 1) by omega] at hb⟩
    · cases h
theorem segsZ_ok {F : List Fct} (hF : FOk e F) : ∀ (l : Segs) {t : Bool}, segsZ F l = some t → (t = true → ∀ j, segBit e l j = false) ∧ (t = false → ∃ j, segBit e l j = true)
  | [], t, h => by simp only [segsZ, Option.some.injEq] at h; subst h; exact ⟨fun _ _ => rfl, fun h => by cases h⟩
  | (d, s) :: l, t, h => by
    simp only [segsZ] at h
    have run : ∀ {u : Bool}, runZ1 F s d = some u → (u = true → ∀ i, i < d → s.bit e i = false) ∧ (u = false → ∃ i, i < d ∧ s.bit e i = true) := by
      intro u hu
      unfold runZ1 at hu
      split at hu
      · cases hu; exact ⟨fun _ i _ => rfl, fun h => by cases h⟩
      · have := runZ_ok hF d 0 hu
        simpa only [Nat.zero_add] using this
    split at h
    · rename_i hu
      have h1 := run hu
      have h2 := segsZ_ok hF l h
      refine ⟨fun ht j => ?_, fun ht => ?_⟩
      · simp only [segBit]
        split
        · rename_i hj; exact h1.1 rfl j hj
        · exact h2.1 ht _
      · obtain ⟨j, hj⟩ := h2.2 ht
        exact ⟨d + j, by simp only [segBit]; rw [if_neg (by omega), show d + j - d = j by omega]; exact hj⟩
    · rename_i r hne
      have h1 := run h
      cases t with
      | true => exact (hne h).elim
      | false =>
        refine ⟨fun h => (by cases h), fun _ => ?_⟩
        obtain ⟨i, hi, hb⟩ := h1.2 rfl
        exact ⟨i, by simp only [segBit]; rw [if_pos hi]; exact hb⟩
theorem addD_ok {k : IntKind} {x y : Int} {la lb l : Segs} (ha : Tells e la x) (hb : Tells e lb y) (h : addD k la lb = some l) : Tells e l (arF .add k x y) := by
  unfold addD at h
  split at h
  · split at h
    · rename_i z hz
      split at h
      · rename_i hs
        have h0 := (segsZ_ok (e := e) (F := []) (fun f hf => by cases hf) z hs).1 rfl
        have h1 := zipS_ok e (f := .and) rfl _ _ _ _ hz
        have h2 := zipS_ok e (f := .or) rfl _ _ _ _ h
        simp only [Good] at h1 h2
        have ta : ∀ j, segBit e (segTake la 64) j = (lowOf .u64 x).testBit j := fun j => by
          rw [segTake_bit]
          by_cases hj : j < 64
          · rw [if_pos hj, ha j hj]
          · rw [if_neg hj, testBit_ge (low64_lt _) (by omega)]
        have tb' : ∀ j, segBit e (segTake lb 64) j = (lowOf .u64 y).testBit j := fun j => by
          rw [segTake_bit]
          by_cases hj : j < 64
          · rw [if_pos hj, hb j hj]
          · rw [if_neg hj, testBit_ge (low64_lt _) (by omega)]
        have hor := add_or (low64_lt x) (low64_lt y) (fun j => by rw [← ta, ← tb', ← h1, h0])
        have hlow : lowOf .u64 (x + y) = lowOf .u64 x ||| lowOf .u64 y := by
          rw [← hor]
          have e1 := lowOf_eq .u64 x
          have e2 := lowOf_eq .u64 y
          have e3 := lowOf_eq .u64 (x + y)
          have l1 := Nat.or_lt_two_pow (low64_lt x) (low64_lt y)
          rw [← hor, two64] at l1
          simp only [span] at e1 e2 e3
          omega
        intro j hj
        have hw : lowOf .u64 (arF .add .u64 x y) = lowOf .u64 (x + y) := by
          show lowOf .u64 (wrapF .u64 (x + y)) = _
          have e3 := lowOf_eq .u64 (wrapF .u64 (x + y))
          have e4 := lowOf_eq .u64 (x + y)
          have e5 := wrapF_mod .u64 (x + y)
          rw [e5, ← e4] at e3
          exact Int.ofNat.inj e3
        rw [h2, ta, tb', hw, hlow, Nat.testBit_or]
      · cases h
    · cases h
  · cases h
theorem bmAr_ok {f : BinOp} {k : IntKind} {a b : N} {la lb l : Segs} (ha : Tells e la (a.den e)) (hb : Tells e lb (b.den e)) (h : bmAr f k a b la lb = some l) : Tells e l (arF f k (a.den e) (b.den e)) := by
  unfold bmAr at h
  split at h
  · split at h
    · rename_i hl
      obtain ⟨rfl, y, z, hy, hz, ly, hsub⟩ := leB_ok (e := e) hl
      obtain ⟨hle, hbits⟩ := sub_xor ly hsub
      intro j hj
      have hq := zipS_ok e (f := .andNot) rfl _ _ _ _ h j
      simp only [Good] at hq
      rw [hq, segTake_bit, segTake_bit, if_pos hj, if_pos hj, ha j hj, hb j hj, hy, hz]
      have lz : z < 2 ^ 64 := by omega
      have e1 : arF .sub .u64 (y : Int) (z : Int) = ((y - z : Nat) : Int) := by
        show wrapF .u64 ((y : Int) - (z : Int)) = _
        rw [show ((y : Int) - (z : Int)) = ((y - z : Nat) : Int) by omega]
        show ((( y - z : Nat) % 18446744073709551616 : Nat) : Int) = _
        rw [Nat.mod_eq_of_lt (by rw [two64] at ly; omega)]
      rw [e1, nat_low ly, nat_low lz, nat_low (by omega), hbits]
    · exact blAr_ok e ha hb h
  · split at h
    · rename_i l' hl'
      cases h
      exact blAr_ok e ha hb hl'
    · exact addD_ok ha hb h
  · exact blAr_ok e ha hb h
theorem take_tells {la : Segs} {x : Int} (h : Tells e la x) : Tells e (segTake la 64) x := fun j hj => by rw [segTake_bit, if_pos hj, h j hj]
mutual
theorem bm_ok (e : Nat → Int) : ∀ x : N, Tells e (bm x) (x.den e)
  | .lit n => fun j hj => by simp only [bm]; exact litSegs_bit e 64 _ j hj
  | .conv k a => by
    simp only [bm, N.den]
    exact segExt_wrap e fun j hj => bm_ok e a j (by have := bits_le k; omega)
  | .ar f k a b => by
    simp only [bm]
    unfold orAtom
    split
    · rename_i l hl
      simp only [N.den]
      exact bmAr_ok (bm_ok e a) (bm_ok e b) hl
    · exact atomS_ok e _
  | .ite c a b => by
    simp only [bm]
    unfold orAtom
    split
    · rename_i l hl
      unfold muxL at hl
      split at hl
      · rename_i p hp
        split at hl
        · rename_i q hq
          intro j hj
          have h1 := zipS_ok e (f := .and) rfl _ _ _ _ hp j
          have h2 := zipS_ok e (f := .and) rfl _ _ _ _ hq j
          have h3 := zipS_ok e (f := .or) rfl _ _ _ _ hl j
          simp only [Good] at h1 h2 h3
          have hc := tb_ok e c
          rw [h3, h1, h2, take_tells (bm_ok e a) j hj, take_tells (bm_ok e b) j hj]
          simp only [segBit, if_pos hj, Src.neg_bit, Src.one_bit, hc, bNot_eq, N.den]
          cases ieq (c.den e) 0 <;> simp
        · cases hl
      · cases hl
    · exact atomS_ok e _
  | .var i lo hi => by simp only [bm]; exact atomS_ok e _
  | .eq a b => by simp only [bm]; exact atomS_ok e _
  | .lt a b => by simp only [bm]; exact atomS_ok e _
  | .not a => by simp only [bm]; exact atomS_ok e _
  | .sel b s a lo hi => by simp only [bm]; exact atomS_ok e _
theorem tb_ok (e : Nat → Int) : ∀ x : N, (tb x).bit e 0 = bNot (ieq (x.den e) 0)
  | .lit n => by simp only [tb, Src.bit, N.den]
  | .not a => by
    simp only [tb, N.den]
    rw [Src.neg_bit, tb_ok e a, bNot_eq, bNot_eq]
    cases ieq (a.den e) 0 <;> rfl
  | .ite c a b => by
    simp only [tb, N.den]
    rw [muxS_bit, tb_ok e c, tb_ok e a, tb_ok e b]
    cases ieq (c.den e) 0 <;> rfl
  | .eq a b => by
    simp only [tb]
    unfold orS2
    split
    · rename_i r hr
      cases a with
      | ar f k x y => exact remT_bit (by simpa only [bx] using bm_ok e x) hr
      | _ => simp only [remT] at hr; cases hr
    · exact eqT_bit (bm_ok e a)
  | .var i lo hi => by simp only [tb]; exact opqS_bit _
  | .ar f k a b => by simp only [tb]; exact opqS_bit _
  | .conv k a => by simp only [tb]; exact opqS_bit _
  | .lt a b => by simp only [tb]; exact ltT_bit (bm_ok e a) (bm_ok e b)
  | .sel b s a lo hi => by simp only [tb]; exact opqS_bit _
end
theorem eqBits_ok {F : List Fct} (hF : FOk e F) {a b : N} {t : Bool} (h : eqBits F a b = some t) : t = true ↔ (N.eq a b).den e ≠ 0 := by
  unfold eqBits at h
  split at h
  · rename_i hr
    split at h
    · rename_i l hl
      have hz := zipS_ok e (f := .xor) rfl _ _ _ _ hl
      simp only [Good] at hz
      have hs := segsZ_ok hF l h
      have hab : (N.eq a b).den e ≠ 0 ↔ a.den e = b.den e := by
        simp only [N.den]; rw [← ieq_iff]; cases ieq (a.den e) (b.den e) <;> simp [bI]
      rw [hab]
      have tk : ∀ (x : N) (j : Nat), segBit e (segTake (bm x) 64) j = (lowOf .u64 (x.den e)).testBit j := fun x j => by
        rw [segTake_bit]
        by_cases hj : j < 64
        · rw [if_pos hj, bm_ok e x j hj]
        · rw [if_neg hj, testBit_ge (low64_lt _) (by omega)]
      constructor
      · intro ht
        refine rng64_ok hr (Nat.eq_of_testBit_eq fun j => ?_)
        have := hs.1 ht j
        rw [hz j, tk, tk] at this
        cases h1 : (lowOf .u64 (a.den e)).testBit j <;> cases h2 : (lowOf .u64 (b.den e)).testBit j <;> simp_all
      · intro heq
        cases t with
        | true => rfl
        | false =>
          obtain ⟨j, hj⟩ := hs.2 rfl
          rw [hz j, tk, tk, heq] at hj
          simp at hj
    · cases h
  · cases h
theorem orElseB_some {a b : Option Bool} {t : Bool} (h : orElseB a b = some t) : a = some t ∨ b = some t := by
  unfold orElseB at h
  split at h
  · exact .inl h
  · exact .inr h
theorem dcd_ok {F : List Fct} (hF : FOk e F) {x : N} {t : Bool} (h : dcd F x = some t) : t = true ↔ x.den e ≠ 0 := by
  have tt : ∀ {x : N}, ttS F (tb x) 0 = some t → (t = true ↔ x.den e ≠ 0) := fun {x} hx => (tb_eq x _ (tb_ok e x)).1 (ttS_ok hF hx)
  unfold dcd at h
  split at h
  · split at h
    · rcases orElseB_some h with h | h
      · exact tt h
      · exact eqBits_ok hF h
    · rcases orElseB_some h with h | h
      · exact eqBits_ok hF h
      · exact tt h
  · exact tt h
theorem fctOf_ok {x : N} {t : Bool} (h : t = true ↔ x.den e ≠ 0) : (fctOf x t).src.bit e 0 = true := by
  have := (tb_eq x t (tb_ok e x)).2 h
  unfold fctOf
  cases t
  · show ((tb x).neg).bit e 0 = true
    rw [Src.neg_bit, this]; rfl
  · exact this
/-- What is asked behind a truth that is gone into. -/
def KOk (e : Nat → Int) (x : N) (k : Kb) : Prop := ∃ t F, (t = true ↔ x.den e ≠ 0) ∧ FOk e F ∧ k t F = true
theorem FOk.cons {F : List Fct} (hF : FOk e F) {f : Fct} (h : f.src.bit e 0 = true) : FOk e (f :: F) := fun g hg => by
  rcases List.mem_cons.1 hg with rfl | hg
  · exact h
  · exact hF g hg
def KOkS (e : Nat → Int) (s : Src) (k : Kb) : Prop := ∃ t F, s.bit e 0 = t ∧ FOk e F ∧ k t F = true
theorem addS_ok : ∀ {s : Src} {F : List Fct}, FOk e F → s.bit e 0 = true → FOk e (addS s F)
  | .k b, F, hF, h => hF.cons h
  | .s x a g, F, hF, h => hF.cons h
  | .r x a g, F, hF, h => hF.cons h
  | .o f u v, F, hF, h => by
    unfold addS
    split
    · simp only [Src.bit, Bool.and_eq_true] at h
      exact addS_ok (addS_ok hF h.2) h.1
    · exact hF.cons h
theorem splitS_ok {F : List Fct} (hF : FOk e F) {s : Src} {k : Kb} (h : splitS s F k = true) : KOkS e s k := by
  unfold splitS at h
  rw [Bool.and_eq_true] at h
  cases hs : s.bit e 0
  · exact ⟨false, _, hs, addS_ok hF (show (s.neg).bit e 0 = true by rw [Src.neg_bit, hs]; rfl), h.2⟩
  · exact ⟨true, _, hs, addS_ok hF hs, h.1⟩
theorem evS_ok (e : Nat → Int) : ∀ (s : Src) (F : List Fct) (k : Kb), FOk e F → evS s F k = true → KOkS e s k
  | .k b, F, k, hF, h => ⟨b, F, rfl, hF, h⟩
  | .s x a g, F, k, hF, h => by
    simp only [evS] at h
    split at h
    · rename_i t ht; exact ⟨t, F, ttS_ok hF ht, hF, h⟩
    · exact splitS_ok hF h
  | .r x a g, F, k, hF, h => by
    simp only [evS] at h
    split at h
    · rename_i t ht; exact ⟨t, F, ttS_ok hF ht, hF, h⟩
    · exact splitS_ok hF h
  | .o f u v, F, k, hF, h => by
    simp only [evS] at h
    split at h
    · rename_i t ht; exact ⟨t, F, ttS_ok hF ht, hF, h⟩
    · split at h
      · exact splitS_ok hF h
      · split at h
        · obtain ⟨t, F', h1, h2, h3⟩ := evS_ok e u F _ hF h
          cases t with
          | false => exact ⟨false, F', by simp only [Src.bit, h1, Bool.false_and], h2, h3⟩
          | true =>
            obtain ⟨t2, F2, h4, h5, h6⟩ := evS_ok e v F' k h2 h3
            exact ⟨t2, F2, by simp only [Src.bit, h1, h4, Bool.true_and], h5, h6⟩
        · obtain ⟨t, F', h1, h2, h3⟩ := evS_ok e u F _ hF h
          cases t with
          | true => exact ⟨true, F', by simp only [Src.bit, h1, Bool.true_or], h2, h3⟩
          | false =>
            obtain ⟨t2, F2, h4, h5, h6⟩ := evS_ok e v F' k h2 h3
            exact ⟨t2, F2, by simp only [Src.bit, h1, h4, Bool.false_or], h5, h6⟩
        · obtain ⟨t, F', h1, h2, h3⟩ := evS_ok e u F _ hF h
          obtain ⟨t2, F2, h4, h5, h6⟩ := evS_ok e v F' _ h2 h3
          exact ⟨_, F2, by simp only [Src.bit, h1, h4, turnB_eq], h5, h6⟩
        · rename_i hne1 hne2 hne3
          refine ⟨false, F, ?_, hF, h⟩
          simp only [Src.bit]
theorem splitB_ok {F : List Fct} (hF : FOk e F) {x : N} {k : Kb} (h : splitB x F k = true) : KOk e x k := by
  obtain ⟨t, F', h1, h2, h3⟩ := evS_ok e _ F k hF h
  exact ⟨t, F', (tb_eq x t (tb_ok e x)).1 h1, h2, h3⟩
theorem baseB_ok {F : List Fct} (hF : FOk e F) {x : N} {k : Kb} (h : baseB x F k = true) : KOk e x k := by
  unfold baseB at h
  split at h
  · rename_i t ht; exact ⟨t, F, dcd_ok hF ht, hF, h⟩
  · exact splitB_ok hF h
theorem eq_den (a b : N) : (N.eq a b).den e = bI (ieq (a.den e) (b.den e)) := rfl
theorem eqB_ok {F : List Fct} (hF : FOk e F) {a b : N} {k : Kb} (h : eqB a b F k = true) : KOk e (.eq a b) k := by
  unfold eqB at h
  split at h
  · rename_i x y
    refine ⟨_, F, ?_, hF, h⟩
    rw [eq_den]
    simp only [N.den]
    cases ieq x y <;> simp [bI]
  · exact baseB_ok hF h
theorem bNot_iff {t : Bool} {x : Int} (h : t = true ↔ x ≠ 0) : bNot t = true ↔ bI (ieq x 0) ≠ 0 := by
  rw [bNot_eq]
  cases hq : ieq x 0
  · rw [ieq_false] at hq; simp [bI, h.2 hq]
  · rw [ieq_iff] at hq
    cases t
    · simp [bI]
    · exact absurd hq (h.1 rfl)
mutual
theorem evB_ok (e : Nat → Int) : ∀ (x : N) (F : List Fct) (k : Kb), FOk e F → evB x F k = true → KOk e x k
  | .lit n, F, k, hF, h => by
    simp only [evB] at h
    exact ⟨_, F, by simp only [N.den, bNot_eq]; cases hq : ieq n 0 <;> simp [ieq_iff, ieq_false] at hq <;> simp [hq], hF, h⟩
  | .not a, F, k, hF, h => by
    simp only [evB] at h
    obtain ⟨t, F', h1, h2, h3⟩ := evB_ok e a F _ hF h
    exact ⟨bNot t, F', by simp only [N.den]; exact bNot_iff h1, h2, h3⟩
  | .ite c a b, F, k, hF, h => by
    have go : (evB c F fun t F' => match t with | true => evB a F' k | false => evB b F' k) = true → KOk e (.ite c a b) k := by
      intro h
      obtain ⟨t, F', h1, h2, h3⟩ := evB_ok e c F _ hF h
      cases t with
      | true =>
        obtain ⟨u, F2, h4, h5, h6⟩ := evB_ok e a F' k h2 h3
        exact ⟨u, F2, by simp only [N.den]; rw [(ieq_false _ _).2 (h1.1 rfl)]; exact h4, h5, h6⟩
      | false =>
        obtain ⟨u, F2, h4, h5, h6⟩ := evB_ok e b F' k h2 h3
        have hc : c.den e = 0 := by
          rcases Decidable.em (c.den e = 0) with hq | hq
          · exact hq
          · exact absurd (h1.2 hq) (by simp)
        exact ⟨u, F2, by simp only [N.den]; rw [(ieq_iff _ _).2 hc]; exact h4, h5, h6⟩
    simp only [evB] at h
    split at h
    · exact go h
    · split at h
      · rename_i t ht; exact ⟨t, F, dcd_ok hF ht, hF, h⟩
      · split at h
        · exact splitB_ok hF h
        · exact go h
  | .eq a b, F, k, hF, h => by
    simp only [evB] at h
    split at h
    · rename_i t ht; exact ⟨t, F, dcd_ok hF ht, hF, h⟩
    · split at h
      · obtain ⟨x, F', h1, h2, h3⟩ := evN_ok e a F _ hF h
        obtain ⟨y, F2, h4, h5, h6⟩ := evN_ok e b F' _ h2 h3
        obtain ⟨t, F3, h7, h8, h9⟩ := eqB_ok h5 h6
        exact ⟨t, F3, by rw [eq_den, ← h1, ← h4]; exact h7, h8, h9⟩
      · exact splitB_ok hF h
  | .var i lo hi, F, k, hF, h => baseB_ok hF (by simpa only [evB] using h)
  | .ar f l a b, F, k, hF, h => baseB_ok hF (by simpa only [evB] using h)
  | .conv l a, F, k, hF, h => baseB_ok hF (by simpa only [evB] using h)
  | .lt a b, F, k, hF, h => baseB_ok hF (by simpa only [evB] using h)
  | .sel b s a lo hi, F, k, hF, h => baseB_ok hF (by simpa only [evB] using h)
theorem evN_ok (e : Nat → Int) : ∀ (x : N) (F : List Fct) (k : N → List Fct → Bool), FOk e F → evN x F k = true → ∃ y F', y.den e = x.den e ∧ FOk e F' ∧ k y F' = true
  | .ite c a b, F, k, hF, h => by
    simp only [evN] at h
    obtain ⟨t, F', h1, h2, h3⟩ := evB_ok e c F _ hF h
    cases t with
    | true =>
      obtain ⟨u, F2, h4, h5, h6⟩ := evN_ok e a F' k h2 h3
      exact ⟨u, F2, by simp only [N.den]; rw [(ieq_false _ _).2 (h1.1 rfl)]; exact h4, h5, h6⟩
    | false =>
      obtain ⟨u, F2, h4, h5, h6⟩ := evN_ok e b F' k h2 h3
      have hc : c.den e = 0 := by
        rcases Decidable.em (c.den e = 0) with hq | hq
        · exact hq
        · exact absurd (h1.2 hq) (by simp)
      exact ⟨u, F2, by simp only [N.den]; rw [(ieq_iff _ _).2 hc]; exact h4, h5, h6⟩
  | .conv l a, F, k, hF, h => by
    simp only [evN] at h
    split at h
    · obtain ⟨x, F', h1, h2, h3⟩ := evN_ok e a F _ hF h
      exact ⟨_, F', by simp only [N.den, h1], h2, h3⟩
    · exact ⟨_, F, rfl, hF, h⟩
  | .ar f l a b, F, k, hF, h => by
    simp only [evN] at h
    split at h
    · obtain ⟨x, F', h1, h2, h3⟩ := evN_ok e a F _ hF h
      obtain ⟨y, F2, h4, h5, h6⟩ := evN_ok e b F' _ h2 h3
      exact ⟨_, F2, by simp only [N.den, h1, h4], h5, h6⟩
    · exact ⟨_, F, rfl, hF, h⟩
  | .lit n, F, k, hF, h => ⟨_, F, rfl, hF, by simpa only [evN] using h⟩
  | .var i lo hi, F, k, hF, h => ⟨_, F, rfl, hF, by simpa only [evN] using h⟩
  | .eq a b, F, k, hF, h => ⟨_, F, rfl, hF, by simpa only [evN] using h⟩
  | .lt a b, F, k, hF, h => ⟨_, F, rfl, hF, by simpa only [evN] using h⟩
  | .not a, F, k, hF, h => ⟨_, F, rfl, hF, by simpa only [evN] using h⟩
  | .sel b s a lo hi, F, k, hF, h => ⟨_, F, rfl, hF, by simpa only [evN] using h⟩
end
theorem addZ1_ok {s : Src} : ∀ (d j : Nat) {F : List Fct}, FOk e F → (∀ i, i < d → s.bit e (j + i) = false) → FOk e (addZ1 s d j F)
  | 0, _, F, hF, _ => hF
  | d + 1, j, F, hF, h => by
    simp only [addZ1]
    refine addS_ok (addZ1_ok d (j + 1) hF fun i hi => by have := h (i + 1) (by omega); rwa [show j + (i + 1) = j + 1 + i by omega] at this) ?_
    rw [Src.neg_bit, Src.one_bit]
    have := h 0 (by omega)
    rw [Nat.add_zero] at this
    rw [this]; rfl
theorem addZ_ok : ∀ {l : Segs} {F : List Fct}, FOk e F → (∀ j, segBit e l j = false) → FOk e (addZ l F)
  | [], F, hF, _ => hF
  | (d, s) :: l, F, hF, h => by
    have hl : ∀ j, segBit e l j = false := fun j => by
      have := h (d + j)
      simp only [segBit] at this
      rwa [if_neg (by omega), show d + j - d = j by omega] at this
    have hs : ∀ i, i < d → s.bit e (0 + i) = false := fun i hi => by
      have := h i
      simp only [segBit] at this
      rwa [if_pos hi, ← Nat.zero_add i] at this
    simp only [addZ]
    split
    · exact addZ_ok hF hl
    · exact addZ1_ok d 0 (addZ_ok hF hl) hs
theorem eqFs_ok {x : N} {t : Bool} {F F' : List Fct} (hF : FOk e F) (hx : t = true ↔ x.den e ≠ 0) (h : eqFs x t F = some F') : FOk e F' := by
  unfold eqFs at h
  split at h
  · rename_i a b
    split at h
    · cases h
    · split at h
      · rename_i l hl
        cases h
        have hab : a.den e = b.den e := by
          have := hx.1 rfl
          rw [eq_den] at this
          rw [← ieq_iff]
          cases hq : ieq (a.den e) (b.den e)
          · rw [hq] at this; exact (this rfl).elim
          · rfl
        have hz := zipS_ok e (f := .xor) rfl _ _ _ _ hl
        simp only [Good] at hz
        refine addZ_ok hF fun j => ?_
        rw [hz j, segTake_bit, segTake_bit]
        by_cases hj : j < 64
        · rw [if_pos hj, if_pos hj, bm_ok e a j hj, bm_ok e b j hj, hab]; simp
        · rw [if_neg hj, if_neg hj]; rfl
      · cases h
  · cases h
theorem goF_ok (e : Nat → Int) {k : List Fct → Bool} (hk : ∀ F, FOk e F → k F = true → False) : ∀ (l : Pc) (F : List Fct), FOk e F → Holds e l → goF k l F = true → False
  | [], F, hF, _, h => by
    simp only [goF] at h
    split at h
    · rename_i hc
      obtain ⟨f, _, hc⟩ := List.any_eq_true.1 hc
      exact clash_ok hF hc
    · exact hk F hF h
  | (x, t) :: l, F, hF, hl, h => by
    have hx := hl x t (by simp)
    have hl' : Holds e l := fun c u hm => hl c u (List.mem_cons_of_mem _ hm)
    simp only [goF] at h
    split at h
    · exact goF_ok e hk l _ (addS_ok hF (fctOf_ok hx)) hl' h
    · split at h
      · rename_i F' hF'
        exact goF_ok e hk l F' (eqFs_ok hF hx hF') hl' h
      · obtain ⟨u, F', h1, h2, h3⟩ := evB_ok e x F _ hF h
        have hut : u = t := by
          cases u <;> cases t <;> first | rfl | (exfalso; simp_all)
        subst hut
        have h3 : goF k l F' = true := by cases u <;> exact h3
        exact goF_ok e hk l F' h2 hl' h3
theorem ltsOf_mem {b : Bool} : ∀ {l : Pc} {x : N × Bool}, x ∈ ltsOf b l → x ∈ l
  | (y, t) :: l, x, h => by
    simp only [ltsOf] at h
    split at h
    · rcases List.mem_cons.1 h with rfl | h
      · simp
      · exact List.mem_cons_of_mem _ (ltsOf_mem h)
    · exact List.mem_cons_of_mem _ (ltsOf_mem h)
theorem eqsOf_mem : ∀ {l : Pc} {x : N × Bool}, x ∈ eqsOf l → x ∈ l
  | (y, t) :: l, x, h => by
    simp only [eqsOf] at h
    split at h
    · rcases List.mem_cons.1 h with rfl | h
      · simp
      · exact List.mem_cons_of_mem _ (eqsOf_mem h)
    · exact List.mem_cons_of_mem _ (eqsOf_mem h)
theorem forceF_ok {R : List Fct} (hR : FOk e R) (un : List Atm) : ∀ (l : List Atm) (A : Asg), AOk e A → AOk e (forceF R un l A)
  | [], A, h => h
  | a :: l, A, h => by
    have ext : ∀ b, aBit e a = b → AOk e ((a, b) :: A) := fun b hb c d hm => by
      rcases List.mem_cons.1 hm with heq | hm
      · cases heq; exact hb
      · exact h c d hm
    have hs : (Src.s a.1 a.2 false).bit e 0 = aBit e a := by
      simp only [Src.bit, aBit, Nat.add_zero]
      cases atomBit e a.1 a.2 <;> rfl
    have hen := en_ok hR (.s a.1 a.2 false) 0 (keepA A un) A h
    rw [hs] at hen
    simp only [forceF]
    refine forceF_ok hR un l _ ?_
    split
    · exact h
    · rename_i hq
      rw [hq] at hen
      cases hb : aBit e a with
      | true => have := hen.1 hb; cases this
      | false => exact ext false hb
    · rename_i hq
      rw [hq] at hen
      cases hb : aBit e a with
      | true => exact ext true hb
      | false => have := hen.2 hb; cases this
theorem relU_mem {A : Asg} {un : List Atm} : ∀ {F : List Fct} {f : Fct}, f ∈ relU A un F → f ∈ F
  | [], f, h => by simp [relU] at h
  | g :: l, f, h => by
    simp only [relU] at h
    split at h
    · exact List.mem_cons_of_mem _ (relU_mem h)
    · split at h
      · rcases List.mem_cons.1 h with rfl | h
        · simp
        · exact List.mem_cons_of_mem _ (relU_mem h)
      · exact List.mem_cons_of_mem _ (relU_mem h)
theorem roundF_ok {F : List Fct} (hF : FOk e F) : ∀ (l : List Fct) (A : Asg), AOk e A → AOk e (roundF F l A)
  | [], A, h => h
  | f :: l, A, h => by
    simp only [roundF]
    split
    · exact roundF_ok hF l A h
    · split
      · exact roundF_ok hF l A h
      · exact roundF_ok hF l _ (forceF_ok (fun g hg => hF g (relU_mem hg)) _ _ _ h)
theorem asgF_ok : ∀ {A : Asg} {F : List Fct}, AOk e A → FOk e F → FOk e (asgF A F)
  | [], F, _, hF => hF
  | (a, b) :: l, F, h, hF => by
    simp only [asgF]
    refine (asgF_ok (fun c d hm => h c d (List.mem_cons_of_mem _ hm)) hF).cons ?_
    have := h a b (by simp)
    simp only [fctS, Src.bit, Nat.add_zero]
    unfold aBit at this
    rw [this]
    cases b <;> rfl
theorem negEqs_mem : ∀ {l : Pc} {x : N × Bool}, x ∈ negEqs l → x ∈ l
  | [], x, h => by simp [negEqs] at h
  | (y, t) :: l, x, h => by
    unfold negEqs at h
    split at h
    · split at h
      · exact List.mem_cons_of_mem _ (negEqs_mem h)
      · rcases List.mem_cons.1 h with rfl | h
        · simp
        · exact List.mem_cons_of_mem _ (negEqs_mem h)
    · exact List.mem_cons_of_mem _ (negEqs_mem h)
theorem endF_ok {pc : Pc} (hh : Holds e pc) {F : List Fct} (hF : FOk e F) (h : endF pc F = true) : False := by
  have nil : AOk e [] := fun _ _ hm => by cases hm
  have hA := roundF_ok hF F _ (roundF_ok hF F _ nil)
  simp only [endF] at h
  split at h
  · rename_i hok
    rw [okF_ok hA hF] at hok
    cases hok
  · exact goF_ok e (fun _ _ h => by cases h) _ _ (asgF_ok hA hF) (hh.sub fun x hx => negEqs_mem hx) h
theorem pickOr_ok : ∀ {F : List Fct} {u v : Src} {r : List Fct}, pickOr F = some (u, v, r) → FOk e F → FOk e r ∧ (u.bit e 0 = true ∨ v.bit e 0 = true)
  | [], u, v, r, h, _ => by simp [pickOr] at h
  | f :: l, u, v, r, h, hF => by
    have hl : FOk e l := fun g hg => hF g (List.mem_cons_of_mem _ hg)
    have hf := hF f (by simp)
    simp only [pickOr] at h
    split at h
    · rename_i a b hq
      cases h
      split at hq
      · rename_i x y hs _
        cases hq
        rw [hs] at hf
        refine ⟨hl, ?_⟩
        simpa [Src.bit] using hf
      · cases hq
    · split at h
      · rename_i a b c hq
        cases h
        obtain ⟨h1, h2⟩ := pickOr_ok hq hl
        exact ⟨h1.cons hf, h2⟩
      · cases h
theorem endS_ok {pc : Pc} (hh : Holds e pc) : ∀ (n : Nat) {F : List Fct}, FOk e F → endS pc n F = true → False
  | 0, F, hF, h => endF_ok hh hF h
  | n + 1, F, hF, h => by
    simp only [endS] at h
    split at h
    · rename_i hq
      exact endF_ok hh hF hq
    · split at h
      · rename_i u v r hq
        rw [Bool.and_eq_true] at h
        obtain ⟨h1, h2⟩ := pickOr_ok hq hF
        rcases h2 with h2 | h2
        · exact endS_ok hh n (addS_ok h1 h2) h.1
        · exact endS_ok hh n (addS_ok h1 h2) h.2
      · cases h
theorem refute0_ok {pc : Pc} (h : refute0 pc = true) (e : Nat → Int) : ¬ Holds e pc := fun hh =>
  goF_ok e (fun F hF hk => goF_ok e (fun F2 hF2 hk2 => goF_ok e (fun F3 hF3 hk3 => endS_ok hh 4 hF3 hk3) _ F2 hF2 (hh.sub fun x hx => (revP_mem.1 (ltsOf_mem hx)).resolve_left (by simp)) hk2) _ F hF (hh.sub fun x hx => ltsOf_mem hx) hk) _ [] (fun f hf => by cases hf)
    (hh.sub fun x hx => (List.mem_append.1 hx).elim eqsOf_mem fun hx => (revP_mem.1 (ltsOf_mem hx)).resolve_left (by simp)) h
theorem rnN_den {e : Nat → Int} {a b : N} (h : a.den e = b.den e) : ∀ x : N, (rnN a b x).den e = x.den e
  | .lit _ => rfl
  | .var j lo hi => by
    simp only [rnN]
    split
    · rename_i hs
      rw [← h, N.same_eq hs]
    · rfl
  | .ar f k x y => by simp only [rnN, N.den, rnN_den h x, rnN_den h y]
  | .conv k x => by simp only [rnN, N.den, rnN_den h x]
  | .eq x y => by simp only [rnN, N.den, rnN_den h x, rnN_den h y]
  | .lt x y => by simp only [rnN, N.den, rnN_den h x, rnN_den h y]
  | .not x => by simp only [rnN, N.den, rnN_den h x]
  | .ite c x y => by simp only [rnN, N.den, rnN_den h c, rnN_den h x, rnN_den h y]
  | .sel q s x lo hi => by simp only [rnN, N.den, rnN_den h x]
theorem rnPc_mem {a b x : N} {t : Bool} : ∀ {l : Pc}, (x, t) ∈ rnPc a b l → ∃ y, (y, t) ∈ l ∧ x = rnN a b y
  | [], h => by simp [rnPc] at h
  | (y, u) :: l, h => by
    simp only [rnPc] at h
    rcases List.mem_cons.1 h with h | h
    · obtain ⟨rfl, rfl⟩ := Prod.mk.inj h
      exact ⟨y, List.mem_cons_self .., rfl⟩
    · obtain ⟨z, hz, hx⟩ := rnPc_mem h
      exact ⟨z, List.mem_cons_of_mem _ hz, hx⟩
theorem rnOf_mem {a b : N} : ∀ {l : Pc}, rnOf l = some (a, b) → ((N.eq a b, true) : N × Bool) ∈ l
  | [], h => by simp [rnOf] at h
  | (x, t) :: l, h => by
    unfold rnOf at h
    split at h
    · cases h; exact List.mem_cons_self ..
    · exact List.mem_cons_of_mem _ (rnOf_mem h)
theorem refute_ok {pc : Pc} (h : refute pc = true) (e : Nat → Int) : ¬ Holds e pc := fun hh => by
  unfold refute at h
  split at h
  · exact refute0_ok h e hh
  · rename_i a b hab
    have h1 := hh _ _ (rnOf_mem hab)
    have h2 : a.den e = b.den e := by
      have := h1.1 rfl
      simpa only [N.den, bI_ne, ieq_iff] using this
    refine refute0_ok h e fun c t hc => ?_
    obtain ⟨y, hy, rfl⟩ := rnPc_mem hc
    rw [rnN_den h2]
    exact hh _ _ hy
theorem refuteAll_ok : ∀ {l : List Pc}, l.all refute = true → ∀ q ∈ l, ∀ e, ¬ Holds e q := fun h q hq => refute_ok (List.all_eq_true.1 h q hq)
end
end Go.Proofs.Ytddacegeepgmmaa.Sx
