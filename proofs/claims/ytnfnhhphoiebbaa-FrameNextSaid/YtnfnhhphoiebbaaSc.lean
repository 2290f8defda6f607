/- The reader: regions that draw their order, code, calls. -/
import Derived.Test.YtnfnhhphoiebbaaSb
set_option linter.unusedVariables false
set_option linter.unusedSimpArgs false
namespace Go.Proofs.Ytnfnhhphoiebbaa.Sx
open Go
noncomputable section

def LpState.same : LpState → LpState → Bool
  | .ready, .ready => true
  | .busy, .busy => true
  | .done, .done => true
  | .out, .out => true
  | _, _ => false
def Pend.same : Pend → Pend → Bool
  | .none, .none => true
  | .ret, .ret => true
  | .exit i, .exit j => Nat.beq i j
  | _, _ => false
def kindsSame : List (Option IntKind) → List (Option IntKind) → Bool
  | [], [] => true
  | none :: l, none :: m => kindsSame l m
  | some a :: l, some b :: m => kindSame a b && kindsSame l m
  | _, _ => false
def Blk.same : Blk → Blk → Bool
  | .cells l t, .cells m u => Nat.beq t u && V.sameL l m
  | .opn l t z, .opn m u y => (Nat.beq t u && Nat.beq z y) && V.sameL l m
  | .mp es c, .mp fs d => Nat.beq c d && entriesSame es fs
  | .ro l, .ro m => V.sameL l m
  | .dead, .dead => true
  | .row b s ks n, .row c t ls m => (Nat.beq b c && Nat.beq s t) && (kindsSame ks ls && N.same n m)
  | .dfr o, .dfr p => (match o, p with | true, true => true | false, false => true | _, _ => false)
  | .lp s p, .lp t q => LpState.same s t && Pend.same p q
  | _, _ => false
where entriesSame : List (V × V × Nat) → List (V × V × Nat) → Bool
  | [], [] => true
  | (a, b, n) :: l, (c, d, m) :: k => (V.same a c && V.same b d) && (Nat.beq n m && entriesSame l k)
  | _, _ => false
def T.same : T → T → Bool
  | .nil, .nil => true
  | .nd a v b, .nd c w d => (match v, w with | none, none => true | some x, some y => Blk.same x y | _, _ => false) && (T.same a c && T.same b d)
  | _, _ => false
def pcSame : Pc → Pc → Bool
  | [], [] => true
  | (x, t) :: l, (y, u) :: m => (N.same x y && (match t, u with | true, true | false, false => true | _, _ => false)) && pcSame l m
  | _, _ => false
def defersSame : List (V × List V) → List (V × List V) → Bool
  | [], [] => true
  | (v, l) :: a, (w, m) :: b => (V.same v w && V.sameL l m) && defersSame a b
  | _, _ => false

/-- A place in the orders of a region: what has come up; what came up ahead of its time, and has not been looked at by what acts; temporaries; the state. -/
structure Pl where
  listed : Array Bool
  spec : List Nat
  fr : Fr
  st : St

section
variable (P : Program) (glob : Nat → Option Nat)

/-- The value that a read-only operation, or one that is not wanted, leaves. -/
def specVal (ops : Array Oper) (o : Oper) (fr : Fr) (st : St) : Q := match wantV ops st.pc fr.1 o with
  | .yes => readV P glob st fr.1 o
  | .nay => .ok .und
  | .ask x => .ask x
  | .bad => .no

/-- Which operations each one waits for, by others too: as bits. -/
def maskOf (acc : List Nat) (l : List Edge) : Nat := match l with
  | [] => 0
  | e :: l => match Region.binds .any e with
    | true => (2 ^ e.on ||| acc.getD e.on 0) ||| maskOf acc l
    | false => maskOf acc l
def masksFrom : List Oper → List Nat → List Nat
  | [], acc => acc
  | o :: l, acc => masksFrom l (acc ++ [maskOf acc o.after.toList])
def masks (ops : Array Oper) : List Nat := masksFrom ops.toList []
/-- Does j wait for i? -/
def waits (ops : Array Oper) (i j : Nat) : Bool := ((masks ops).getD j 0).testBit i

/-- A bit. -/
def bitOf (m i : Nat) : Bool := Nat.beq (Nat.land (Nat.shiftRight m i) 1) 1
/-- Who writes what: a field of n bits for each slot. -/
def writersCode (n : Nat) : List Oper → Nat → Nat
  | [], _ => 0
  | o :: l, i => match o.dst with
    | some d => Nat.lor (2 ^ (d * n + i)) (writersCode n l (i + 1))
    | none => writersCode n l (i + 1)
def writersOf (n code s : Nat) : Nat := Nat.land (Nat.shiftRight code (s * n)) (2 ^ n - 1)
/-- Those that write what is looked at, and are not waited for. -/
def lookBad (n code nw : Nat) : List Tmp → Nat
  | [] => 0
  | s :: l => Nat.lor (Nat.land (writersOf n code s) nw) (lookBad n code nw l)
def dupBad (n code i : Nat) (d : Option Tmp) : Nat := match d with
  | some d => match Nat.beq (writersOf n code d) (2 ^ i) with | true => 0 | false => writersOf n code d
  | none => 0
def badFrom (ops : Array Oper) (n code : Nat) : List Oper → List Nat → Nat → Nat
  | o :: l, m :: ms, i => Nat.lor (lookBad n code (Nat.xor (2 ^ n - 1) (Nat.land m (2 ^ i - 1))) (o.looksAt ops)) (Nat.lor (dupBad n code i o.dst) (badFrom ops n code l ms (i + 1)))
  | _, _, _ => 0
/-- Who may not come up ahead of its time: somebody that does not wait for it looks at what it writes, or writes that, too. -/
def badMask (ops : Array Oper) : Nat := badFrom ops ops.size (writersCode ops.size ops.toList 0) ops.toList (masks ops) 0

/-- What came up ahead of its time still reads as it read. -/
def holds (ops : Array Oper) (fr : Fr) (st : St) : List Nat → Bool
  | [] => true
  | i :: l => match tat ops.toList i with
    | none => false
    | some o => match o.dst with
      | none => false
      | some d => match specVal P glob ops o fr st, tat fr.1 d with
        | .ok v, some u => V.same v u && holds ops fr st l
        | _, _ => false

/-- Operations that act: where each one's new blocks begin, and the next free number. -/
structure Bk where
  base : List (Nat × Nat)
  top : Nat
def baseOf (b : Bk) (i : Nat) : Nat × Bk := match b.base.find? fun p => Nat.beq p.1 i with
  | some p => (p.2, b)
  | none => (b.top, { b with base := (i, b.top) :: b.base })
def topOf (n : Nat) : List (Fr × St) → Nat
  | [] => n
  | (_, st) :: l => topOf (match Nat.ble n st.nxt with | true => st.nxt | false => n) l

/-- What has come up, as bits. -/
def bitsArr (n m : Nat) : Array Bool := ((List.range n).map (bitOf m)).toArray
/-- A place, what has come up being bits. -/
structure Qp where
  lm : Nat
  spec : List Nat
  fr : Fr
  st : St
def Qp.pl (n : Nat) (q : Qp) : Pl := { listed := bitsArr n q.lm, spec := q.spec, fr := q.fr, st := q.st }
def Qp.same (a b : Qp) : Bool :=
  Nat.beq a.lm b.lm && (natsSame a.spec b.spec && (V.sameL a.fr.1 b.fr.1 && (defersSame a.fr.2 b.fr.2 && (pcSame a.st.pc b.st.pc && (Nat.beq a.st.nxt b.st.nxt && T.same a.st.hp b.st.hp)))))
def addQp (p : Qp) : List Qp → List Qp
  | [] => [p]
  | q :: l => match Qp.same q p with | true => q :: l | false => q :: addQp p l

/-- What an operation waits for outright, as bits. -/
def predMask : List Edge → Nat
  | [] => 0
  | e :: l => match Region.binds .any e with
    | true => Nat.lor (2 ^ e.on) (predMask l)
    | false => predMask l
def rdy (lm i : Nat) (o : Oper) : Bool := match bitOf lm i with
  | true => false
  | false => Nat.beq (Nat.land lm (predMask o.after.toList)) (predMask o.after.toList)
def readyFrom (lm : Nat) : List Oper → Nat → List Nat
  | [], _ => []
  | o :: l, i => match rdy lm i o with | true => i :: readyFrom lm l (i + 1) | false => readyFrom lm l (i + 1)

/-- Takes, in one pass, all that is ready, read-only and known. -/
inductive Pas where
  | fin (q : Qp)
  | ask (x : N) (q : Qp)
def pass (ops : Array Oper) (bad : Nat) : List Oper → Nat → Qp → Pas
  | [], _, q => .fin q
  | o :: l, i, q => match rdy q.lm i o with
    | false => pass ops bad l (i + 1) q
    | true => match o.dst with
      | none => pass ops bad l (i + 1) q
      | some d => match specVal P glob ops o q.fr q.st with
        | .ok v => match bitOf bad i with
          | true => pass ops bad l (i + 1) q
          | false => match hasAt q.fr.1 d with
            | true => pass ops bad l (i + 1) { lm := Nat.lor q.lm (2 ^ i), spec := i :: q.spec, fr := (tset q.fr.1 d v, q.fr.2), st := q.st }
            | false => pass ops bad l (i + 1) q
        | .ask x => .ask x q
        | .no => pass ops bad l (i + 1) q

/-- .. what has come up being an array. -/
def behindP (ops : Array Oper) (p : Pl) (i : Nat) : List (Fr × St) → Option (List Pl)
  | [] => some []
  | (fr, st) :: l =>
    let s := p.spec.filter fun j => match waits ops j i with | true => false | false => true
    match holds P glob ops fr st s, behindP ops p i l with
    | true, some m => some ({ listed := p.listed.setIfInBounds i true, spec := s, fr := fr, st := { st with nxt := 0 } } :: m)
    | _, _ => none

/-- The places behind the operation i. -/
def behind (ops : Array Oper) (q : Qp) (i : Nat) : List (Fr × St) → Option (List Qp)
  | [] => some []
  | (fr, st) :: l =>
    let s := q.spec.filter fun j => match waits ops j i with | true => false | false => true
    match holds P glob ops fr st s, behind ops q i l with
    | true, some m => some ({ lm := Nat.lor q.lm (2 ^ i), spec := s, fr := fr, st := { st with nxt := 0 } } :: m)
    | _, _ => none

def actAll (E : Cx) (lf : Nat) (ops : Array Oper) (q : Qp) : List Nat → Bk → Option (List Qp × Bk)
  | [], b => some ([], b)
  | i :: l, b => match tat ops.toList i with
    | none => none
    | some o => match baseOf b i with
      | (n, b1) => match oneOp P glob E lf ops o q.fr { q.st with nxt := n } with
        | none => none
        | some xs => match behind P glob ops q i xs with
          | none => none
          | some ps => match actAll E lf ops q l { b1 with top := topOf b1.top xs } with
            | none => none
            | some (qs, b2) => some (ps ++ qs, b2)

/-- One step of one place: places that follow, and ends. -/
def stepPl (E : Cx) (lf : Nat) (ops : Array Oper) (q : Qp) (b : Bk) : Option (List Qp × List Qp × Bk) :=
  match pass P glob ops (badMask ops) ops.toList 0 q with
  | .ask x p => match holds P glob ops p.fr (forkPc p.st x true) p.spec && holds P glob ops p.fr (forkPc p.st x false) p.spec with
    | true => some ([{ p with st := forkPc p.st x true }, { p with st := forkPc p.st x false }], [], b)
    | false => none
  | .fin p => match readyFrom p.lm ops.toList 0 with
    | [] => some ([], [p], b)
    | i :: l => match actAll P glob E lf ops p (i :: l) b with
      | some (qs, b') => some (qs, [], b')
      | none => none

def stepAll (E : Cx) (lf : Nat) (ops : Array Oper) : List Qp → Bk → Option (List Qp × List Qp × Bk)
  | [], b => some ([], [], b)
  | p :: l, b => match stepPl P glob E lf ops p b with
    | none => none
    | some (qs, ends, b1) => match stepAll E lf ops l b1 with
      | none => none
      | some (qs', ends', b2) => some (qs ++ qs', ends ++ ends', b2)

def addAll : List Qp → List Qp → List Qp
  | [], acc => acc
  | p :: l, acc => addAll l (addQp p acc)

def explore (E : Cx) (lf : Nat) (ops : Array Oper) : Nat → List Qp → List Qp → Bk → Option (List Qp × Bk)
  | 0, _, _, _ => none
  | _ + 1, [], ends, b => some (ends, b)
  | n + 1, p :: l, ends, b => match stepAll P glob E lf ops (p :: l) b with
    | none => none
    | some (qs, es, b') => explore E lf ops n (addAll qs []) (addAll es ends) b'

/-- Operations wait for earlier ones alone. -/
def edgesBack (ops : Array Oper) : Bool :=
  (List.range ops.size).all fun i => match tat ops.toList i with
    | some o => o.after.toList.all fun e => match Region.binds .any e with | true => Nat.blt e.on i | false => true
    | none => true

def drawOps (E : Cx) (lf : Nat) (ops : Array Oper) (fr : Fr) (st : St) : Option (List (Fr × St)) :=
  match edgesBack ops with
  | false => none
  | true => match explore P glob E lf ops (2 * ops.size + 50) [{ lm := 0, spec := [], fr := fr, st := { st with nxt := 0 } }] [] { base := [], top := st.nxt } with
    | some (ends, b) => some (ends.map fun p => (p.fr, { p.st with nxt := b.top }))
    | none => none

abbrev Ways := List (Exit × Fr × St)

/-! Ways that part and meet again are made one: what differs hangs on the truth that parts them -/
def sameV (a b : V) : Option V := match V.same a b with | true => some a | false => none
mutual
def mergeV (c : N) : V → V → Option V
  | .n k x, .n l y => match kindSame k l with
    | true => some (.n k (mkIte c x y))
    | false => none
  | .b x, .b y => some (.b (mkIte c x y))
  | .agg l, .agg m => match mergeL c l m with | some r => some (.agg r) | none => none
  | .tup l, .tup m => match mergeL c l m with | some r => some (.tup r) | none => none
  | a, b => sameV a b
def mergeL (c : N) : List V → List V → Option (List V)
  | [], [] => some []
  | a :: l, b :: m => match mergeL c l m with
    | none => none
    | some r => match mergeV c a b with
      | some v => some (v :: r)
      | none => none
  | _, _ => none
end
def hasT (h : T) (i : Nat) : Bool := match h.get i with | some _ => true | none => false
mutual
/-- Does a value speak of blocks alone that there are? -/
def okB (h : T) : V → Bool
  | .ptr i _ => hasT h i
  | .yld i => hasT h i
  | .sls i _ => hasT h i
  | .pts i _ _ _ => hasT h i
  | .slc i _ _ _ => hasT h i
  | .slo i _ _ _ => hasT h i
  | .map i => hasT h i
  | .fn _ x y => okBL h x && okBL h y
  | .ifc _ v => okB h v
  | .agg l => okBL h l
  | .tup l => okBL h l
  | .alt _ x y => okB h x && okB h y
  | _ => true
def okBL (h : T) : List V → Bool
  | [] => true
  | v :: l => okB h v && okBL h l
end
/-- Temporaries: some may be one or the other. -/
def mergeTm (alt : Bool) (c : N) (h : T) : List V → List V → Option (List V)
  | [], [] => some []
  | a :: l, b :: m => match mergeTm alt c h l m with
    | none => none
    | some r => match mergeV c a b with
      | some v => some (v :: r)
      | none => match alt && (okB h a && okB h b) with
        | true => some (.alt c a b :: r)
        | false => none
  | _, _ => none
def sameK (a b : Blk) : Option Blk := match Blk.same a b with | true => some a | false => none
def mergeB (c : N) (a b : Blk) : Option Blk := match a, b with
  | .cells l t, .cells m u => match Nat.beq t u with
    | true => match mergeL c l m with | some r => some (.cells r t) | none => none
    | false => none
  | .opn l t z, .opn m u y => match Nat.beq t u && Nat.beq z y with
    | true => match mergeL c l m with | some r => some (.opn r t z) | none => none
    | false => none
  | a, b => sameK a b
/-- A block that there is on one way alone may not be looked at any more. -/
def mergeO (c : N) (a b : Option Blk) : Option (Option Blk) := match a, b with
  | none, none => some none
  | some x, some y => match mergeB c x y with | some z => some (some z) | none => none
  | _, _ => some (some .dead)
def T.lft : T → T
  | .nil => .nil
  | .nd l _ _ => l
def T.mid : T → Option Blk
  | .nil => none
  | .nd _ v _ => v
def T.rgt : T → T
  | .nil => .nil
  | .nd _ _ r => r
def bothNil : T → T → Bool
  | .nil, .nil => true
  | _, _ => false
def mergeT (c : N) : Nat → T → T → Option T
  | 0, _, _ => none
  | n + 1, a, b => match bothNil a b with
    | true => some .nil
    | false => match mergeO c a.mid b.mid with
      | none => none
      | some z => match mergeT c n a.lft b.lft with
        | none => none
        | some x => match mergeT c n a.rgt b.rgt with
          | none => none
          | some y => some (.nd x z y)
def revP : Pc → Pc → Pc
  | acc, [] => acc
  | acc, x :: l => revP (x :: acc) l
/-- What two ways took alike at first; and what parts them, the eldest first. -/
def walkP : Pc → Pc → Pc → Pc × Pc × Pc
  | acc, (x, t) :: p, (y, u) :: q => match N.same x y && bSame t u with
    | true => walkP ((x, t) :: acc) p q
    | false => (acc, (x, t) :: p, (y, u) :: q)
  | acc, p, q => (acc, p, q)
/-- Is it so on the one way, and not so on the other? -/
def partsC (p q : Pc) (c : N) : Option Bool := match dec p c with
  | some true => match dec q c with | some false => some true | _ => none
  | some false => match dec q c with | some true => some false | _ => none
  | none => none
def pickC (p q : Pc) : Pc → Pc → Option (N × Bool)
  | (x, _) :: _, (y, _) :: _ => match partsC p q x with
    | some t => some (x, t)
    | none => match partsC p q y with
      | some t => some (y, t)
      | none => none
  | _, _ => none
def litP (x : N) (t : Bool) : N := match t with | true => x | false => mkNot x
def conjP : Pc → N
  | [] => .lit 1
  | (x, t) :: l => match conjP l with
    | .lit _ => litP x t
    | y => .ite (litP x t) y (.lit 0)
/-- What parted them, but for the truth itself. -/
def butC (c : N) : Pc → Pc
  | (x, t) :: l => match N.same x c with | true => l | false => (x, t) :: l
  | [] => []
def implP (pc : Pc) : Pc → Bool
  | [] => true
  | (x, t) :: l => (match dec pc x with | some u => bSame u t | none => false) && implP pc l
/-- Did nothing else part them? -/
def exactC (c : N) (t : Bool) (base r : Pc) : Bool := match butC c r with
  | [] => true
  | l => implP (addPc c t base) l
def glue (alt : Bool) (c : N) (a b : Fr × St) (pc : Pc) : Option (Fr × St) := match mergeT c 50 a.2.hp b.2.hp with
  | none => none
  | some h => match mergeTm alt c h a.1.1 b.1.1 with
    | none => none
    | some tm => some ((tm, a.1.2), { nxt := (match Nat.ble a.2.nxt b.2.nxt with | true => b.2.nxt | false => a.2.nxt), hp := h, pc := pc })
/-- a where c is so, b where it is not. -/
def glueX (exact alt : Bool) (c : N) (a b : Fr × St) (base p q : Pc) : Option (Fr × St) := match exactC c true base p && exactC c false base q with
  | true => glue alt c a b base
  | false => match exact with
    | true => none
    | false => glue alt c a b ((.ite c (conjP (butC c p)) (conjP (butC c q)), true) :: base)
def merge2 (exact alt : Bool) (a b : Fr × St) : Option (Fr × St) := match defersSame a.1.2 b.1.2 with
  | false => none
  | true => match walkP [] (revP [] a.2.pc) (revP [] b.2.pc) with
    | (base, p, q) => match pickC a.2.pc b.2.pc p q with
      | none => none
      | some (c, true) => glueX exact alt c a b base p q
      | some (c, false) => glueX exact alt c b a base q p
def exitSame : Exit → Exit → Bool
  | .normal, .normal => true
  | .ret, .ret => true
  | .exit i, .exit j => Nat.beq i j
  | _, _ => false
/-- One of these ways, joined with that one; and the others. -/
def partner (exact alt : Bool) (x : Exit) (p : Fr × St) : Ways → Option ((Fr × St) × Ways)
  | [] => none
  | (y, q) :: l => match (match exitSame x y with | true => merge2 exact alt q p | false => none) with
    | some r => some (r, l)
    | none => match partner exact alt x p l with
      | some (r, m) => some (r, (y, q) :: m)
      | none => none
def addW (exact alt : Bool) (x : Exit) : Nat → Fr × St → Ways → Ways
  | 0, p, l => (x, p) :: l
  | n + 1, p, l => match partner exact alt x p l with
    | some (r, m) => addW exact alt x n r m
    | none => (x, p) :: l
def mergeAll (exact alt : Bool) : Ways → Ways → Ways
  | acc, [] => acc
  | acc, (x, p) :: l => mergeAll exact alt (addW exact alt x 100 p acc) l
def lenP : Pc → Nat
  | [] => 0
  | _ :: l => lenP l + 1
def dropP : Nat → Pc → Pc
  | 0, l => l
  | n + 1, _ :: l => dropP n l
  | _ + 1, [] => []
/-- All ways are one: what was taken since then is not known any more. -/
def oneW (pc : Pc) : Ways → Ways
  | [(x, fr, st)] => [(x, fr, { st with pc := dropP (lenP st.pc - lenP pc) st.pc })]
  | l => l
/-- .. where that is asked for. -/
def joinW (lf : Nat) (pc : Pc) (l : Ways) : Ways := match Nat.ble 1024 lf with
  | true => match l with
    | [] => []
    | [x] => [x]
    | l => match mergeAll true true [] l with
      | [] => []
      | [x] => oneW pc [x]
      | m => oneW pc (mergeAll false true [] m)
  | false => l
/-- In which functions ways are joined is told by bits of the number of rounds. -/
def lfOf (lf f : Nat) : Nat := match Nat.ble 1024 lf with
  | true => match bitOf (lf / 1024) f with
    | true => lf % 1024 + 1024
    | false => lf % 1024
  | false => lf
/-- .. and in the law's own body, by a bit of its own. -/
def lfLaw (lf : Nat) : Nat := lfOf lf 250
def asWays : List (V × St) → Ways
  | [] => []
  | (v, st) :: l => (.normal, ([v], []), st) :: asWays l
def joinR (lf f : Nat) (pc : Pc) (l : List (V × St)) : List (V × St) := match Nat.ble 1024 lf && bitOf (lf / 1024) f with
  | true => match l with
    | [] => []
    | [x] => [x]
    | l => match oneW pc (mergeAll false false [] (mergeAll true false [] (asWays l))) with
      | [(_, ([v], _), st)] => [(v, st)]
      | _ => l
  | false => l

def rounds (body : Fr → St → Option Ways) : Nat → Fr → St → Option Ways
  | 0, _, _ => none
  | n + 1, fr, st => match body fr st with
    | some xs => bindL (fun (x, fr', st') => match x with
      | .normal => rounds body n fr' st'
      | _ => some [(x, fr', st')]) xs
    | none => none

def leaveBlock (id : Nat) : Exit → Exit
  | .exit id' => match Nat.beq id' id with | true => .normal | false => .exit id'
  | x => x

/-- A range over a function is entered: its block, its mark among what is deferred. -/
def laidL (ro : Option Nat) (st : St) : Option (Nat × List (V × List V) × St) := match ro with
  | some r => match st.hp.get r, st.new (.lp .ready .none) with
    | some (.lp _ _), some (i, st') => some (i, [], st')
    | _, _ => none
  | none => match st.new (.dfr true) with
    | some (d, st1) => match st1.new (.lp .ready .none) with
      | some (i, st') => some (i, [(.map d, [])], st')
      | none => none
    | none => none
def setAll (tm : List V) : List Tmp → List V → List V
  | t :: ts, v :: vs => setAll (tset tm t v) ts vs
  | _, _ => tm
/-- The end of a round. -/
def endR (i : Nat) (x : Exit) (st : St) : Option (List (V × St)) := match st.hp.get i with
  | some (.lp _ _) => match x with
    | .normal => some [(.b (.lit 1), st.put i (.lp .ready .none))]
    | .ret => some [(.b (.lit 0), st.put i (.lp .done .ret))]
    | .exit id => some [(.b (.lit 0), st.put i (.lp .done (.exit id)))]
    | _ => none
  | _ => none
/-- A round: the loop's variables are set; the body. -/
def roundOf (i : Nat) (ps : List Tmp) (tm : List V) (assign body : Fr → St → Option Ways) : Rnd := fun args st => match Nat.beq args.length ps.length with
  | false => none
  | true => match assign (setAll tm ps args, []) st with
    | none => none
    | some ys => bindL (fun (x, fr1, st1) => match x with
      | .normal => match st1.hp.get i with
        | some (.lp .ready p) => match body fr1 (st1.put i (.lp .busy p)) with
          | some zs => bindL (fun (y, _, st3) => endR i y st3) zs
          | none => none
        | _ => none
      | _ => none) ys
def Pend.exit' : Pend → Exit
  | .none => .normal
  | .ret => .ret
  | .exit id => .exit id
/-- The function that was ranged over has returned. -/
def endL (i : Nat) (fr : Fr) (st : St) : Option Ways := match st.hp.get i with
  | some (.lp .busy _) => none
  | some (.lp _ p) => some [(p.exit', fr, st.put i (.lp .out p))]
  | _ => none

def codeEval (lf : Nat) : Code → Cx → Fr → St → Option Ways
  | .skip, E, fr, st => some [(.normal, fr, st)]
  | .label _, E, fr, st => some [(.normal, fr, st)]
  | .region _ ops draw, E, fr, st => match (match draw with
      | false => listOps P glob E lf ops ops.toList fr st
      | true => drawOps P glob E lf ops fr st) with
    | some xs => some (joinW lf st.pc (xs.map fun (fr', st') => (.normal, fr', st')))
    | none => none
  | .seq a b, E, fr, st => match codeEval lf a E fr st with
    | some xs => bindL (fun (x, fr', st') => match x with
      | .normal => codeEval lf b E fr' st'
      | _ => some [(x, fr', st')]) xs
    | none => none
  | .cond c a b, E, fr, st => match opd glob fr.1 c with
    | some (.b x) => match dec st.pc x with
      | some true => codeEval lf a E fr st
      | some false => codeEval lf b E fr st
      | none => match codeEval lf a E fr (forkPc st x true), codeEval lf b E fr (forkPc st x false) with
        | some l, some m => some (joinW lf st.pc (l ++ m))
        | _, _ => none
    | _ => none
  | .block id c, E, fr, st => match codeEval lf c E fr st with
    | some xs => some (joinW lf st.pc (xs.map fun (x, fr', st') => (leaveBlock id x, fr', st')))
    | none => none
  | .loop c, E, fr, st => rounds (codeEval lf c E) lf fr st
  | .exit id, E, fr, st => some [(.exit id, fr, st)]
  | .ret, E, fr, st => some [(.ret, fr, st)]
  | .rangeFunc g ps assign body, E, fr, st => match opd glob fr.1 g with
    | some (.fn (.func f) a b) => match goodFn P f, laidL E.ro st with
      | true, some (i, mark, st2) => match E.ev ((i, roundOf i ps.toList fr.1 (codeEval lf assign { E with ro := some i }) (codeEval lf body { E with ro := some i })) :: E.rs) f (a ++ [.yld i] ++ b) st2 with
        | some xs => bindL (fun (_, st') => endL i (fr.1, mark ++ fr.2) st') xs
        | none => none
      | _, _ => none
    | _ => none
  | .scope c, E, fr, st => match codeEval lf c E fr st with
    | some xs => bindL (fun (x, fr', st') => match x with
      | .goto _ => none
      | x => some [(x, fr', st')]) xs
    | none => none
  | _, _, _, _ => none

/-- No region holds a select. -/
def noSelC : Code → Bool
  | .region _ ops _ => Region.noSelect ops
  | .seq x y => noSelC x && noSelC y
  | .cond _ x y => noSelC x && noSelC y
  | .block _ x => noSelC x
  | .loop x => noSelC x
  | .rangeFunc _ _ x y => noSelC x && noSelC y
  | .scope x => noSelC x
  | _ => true

/-- A call's body, to its end; what is deferred is not yet done. -/
def bodyEval (E : Ev) (lf : Nat) (rs : Rnds) (f : FuncId) (args : List V) (st : St) : Option (List (Fr × St)) := match P.funcs[f]? with
  | some fn => match fn.body with
    | some c => match noSelC c with
      | true => match codeEval P glob (lfOf lf f) c { ev := E, rs := rs, ro := none } (args ++ List.replicate (fn.ntmps - args.length) .und, []) st with
        | some xs => bindL (fun (x, fr', st') => match x with
          | .normal => some [(fr', st')]
          | .ret => some [(fr', st')]
          | _ => none) xs
        | none => none
      | false => none
    | none => none
  | none => none

def resultV (st : St) (tm : List V) : ResultVar → Option V
  | .tmp t => some (tget .und tm t)
  | .cell a t => match loadV P st t (tget .und tm a) with | .ok v => some v | _ => none
def resultsV (st : St) (tm : List V) : List ResultVar → Option (List V)
  | [] => some []
  | r :: l => match resultV P st tm r, resultsV st tm l with
    | some v, some m => some (v :: m)
    | _, _ => none
def answerV (fn : Func) (st : St) (tm : List V) : Option V := match resultsV P st tm fn.results.toList with
  | some [v] => some v
  | some l => some (.tup l)
  | none => none

/-- recover: nothing has panicked. -/
def isRecover (o : Oper) : Bool := match o.op with
  | .call c => match c.callee, o.guard with
    | .builtin .recover, none => Nat.beq c.args.size 0
    | _, _ => false
  | _ => false
def recOps (ops : Array Oper) : List Oper → Fr → St → Option Fr
  | [], fr, _ => some fr
  | o :: l, fr, st => match isRecover o with
    | true => recOps ops l (setDst fr.1 o.dst .nili, fr.2) st
    | false => match specVal P glob ops o fr st with
      | .ok v => recOps ops l (setDst fr.1 o.dst v, fr.2) st
      | _ => none
/-- Code of a deferred call that begins with a region that recovers. -/
def recCode (E : Cx) (lf : Nat) : Code → Fr → St → Option Ways
  | .region _ ops false, fr, st => match recOps P glob ops ops.toList fr st with
    | some fr' => some [(.normal, fr', st)]
    | none => none
  | .seq a b, fr, st => match recCode E lf a fr st with
    | some [(.normal, fr', st')] => match recCode E lf b fr' st' with
      | some xs => some xs
      | none => codeEval P glob lf b E fr' st'
    | _ => none
  | .cond c a b, fr, st => match opd glob fr.1 c with
    | some (.b x) => match dec st.pc x with
      | some true => codeEval P glob lf a E fr st
      | some false => codeEval P glob lf b E fr st
      | none => none
    | _ => none
  | _, _, _ => none
/-- A deferred call's body. -/
def deferEval (E : Ev) (lf : Nat) (rs : Rnds) (f : FuncId) (args : List V) (st : St) : Option (List (Fr × St)) := match P.funcs[f]? with
  | some fn => match fn.body with
    | some c => match noSelC c with
      | true => match recCode P glob { ev := E, rs := rs, ro := none } lf c (args ++ List.replicate (fn.ntmps - args.length) .und, []) st with
        | some xs => bindL (fun (x, fr', st') => match x with
          | .normal => some [(fr', st')]
          | .ret => some [(fr', st')]
          | _ => none) xs
        | none => none
      | false => none
    | none => none
  | none => none

def runDefers (E : Ev) (lf : Nat) (rs : Rnds) : List (V × List V) → St → Option (List St)
  | [], st => some [st]
  | (.fn (.func g) a b, l) :: ds, st => match P.funcs[g]?, goodFn P g with
    | none, _ => none
    | some _, false => none
    | some fn, true => match (match bodyEval P glob E lf rs g (a ++ l ++ b) st with | some xs => some xs | none => deferEval P glob E lf rs g (a ++ l ++ b) st) with
      | some xs => bindL (fun (fr', st') => match fr'.2, answerV P fn st' fr'.1 with
        | [], some _ => runDefers E lf rs ds st'
        | _, _ => none) xs
      | none => none
  | (.fn (.method name) [] [], .ifc t v :: l) :: ds, st => match methodV P t name with
    | some g => match P.funcs[g]?, goodFn P g with
      | none, _ => none
      | some _, false => none
      | some fn, true => match (match bodyEval P glob E lf rs g (v :: l) st with | some xs => some xs | none => deferEval P glob E lf rs g (v :: l) st) with
        | some xs => bindL (fun (fr', st') => match fr'.2, answerV P fn st' fr'.1 with
          | [], some _ => runDefers E lf rs ds st'
          | _, _ => none) xs
        | none => none
    | none => none
  | (.map i, []) :: ds, st => match st.hp.get i with
    | some (.dfr true) => runDefers E lf rs ds (st.put i (.dfr false))
    | _ => none
  | _ :: _, _ => none

def callEval (E : Ev) (lf : Nat) (rs : Rnds) (f : FuncId) (args : List V) (st : St) : Option (List (V × St)) := match P.funcs[f]? with
  | none => none
  | some fn => match bodyEval P glob E lf rs f args st with
    | some xs => bindL (fun (fr', st') => match runDefers P glob E lf rs fr'.2 st' with
      | some sts => bindL (fun st'' => match answerV P fn st'' fr'.1 with
        | some v => some [(v, st'')]
        | none => none) sts
      | none => none) xs
    | none => none

/-- Calls within calls, n deep; a function that is answered by 'base' is not entered. -/
def ev (base : Ev) (lf : Nat) : Nat → Ev
  | 0 => base
  | n + 1 => fun rs f args st => match base rs f args st with
    | some l => some l
    | none => match callEval P glob (ev base lf n) lf rs f args st with
      | some l => some (joinR lf f st.pc l)
      | none => none
end

/-! Calls of the library that are answered without being read -/
inductive LibF where
  | join
  | rept
  | tz
def strsOf : List V → Option (List (List Nat))
  | [] => some []
  | .s l :: r => match strsOf r with | some m => some (l :: m) | none => none
  | _ => none
def joinB : List (List Nat) → List Nat → List Nat
  | [], _ => []
  | [x], _ => x
  | x :: y :: r, sep => x ++ (sep ++ joinB (y :: r) sep)
def repB : Nat → List Nat → List Nat
  | 0, _ => []
  | n + 1, l => l ++ repB n l
/-- Its lowest bit that is 1 is that one. -/
def tzC (a : N) (j : Nat) : N := mkEq (mkAr .and .u64 a (.lit (Int.ofNat (2 ^ (j + 1) - 1)))) (.lit (Int.ofNat (2 ^ j)))
def tzWays (st : St) (a : N) : Nat → Nat → List (V × St)
  | 0, _ => match dec st.pc (mkEq a (.lit 0)) with
    | some false => []
    | _ => [(.n .i64 (.lit 64), forkPc st (mkEq a (.lit 0)) true)]
  | n + 1, j => match dec st.pc (tzC a j) with
    | some true => [(.n .i64 (.lit (Int.ofNat j)), st)]
    | some false => tzWays st a n (j + 1)
    | none => (.n .i64 (.lit (Int.ofNat j)), forkPc st (tzC a j) true) :: tzWays st a n (j + 1)
/-- Is there room for so many? -/
def capFits (st : St) (n : Nat) : V → Bool
  | .slc _ _ _ cap => Nat.ble n cap
  | .slo i off eoff _ => match roomV st i off eoff 1 with
    | some k => Nat.ble n k
    | none => false
  | _ => false
def libV (k : LibF) (args : List V) (st : St) : Option (List (V × St)) := match k with
  | .join => match args with
    | [v, .s sep] => match lenOfV v with
      | some n => match firstV st 1 n v with
        | some l => match strsOf l with
          | some xs => match (capFits st n v && Nat.ble n 100000) && Nat.ble (joinB xs sep).length 100000 with
            | true => some [(.s (joinB xs sep), st)]
            | false => none
          | none => none
        | none => none
      | none => none
    | _ => none
  | .rept => match args with
    | [.s l, .n .i64 a] => match known st.pc a with
      | some (.ofNat c) => match Nat.ble c 100000 && Nat.ble (l.length * c) 100000 with
        | true => some [(.s (repB c l), st)]
        | false => none
      | _ => none
    | _ => none
  | .tz => match args with
    | [.n .u64 a] => match nonneg64 a with
      | true => some (tzWays st a 64 0)
      | false => none
    | _ => none
def findL (f : Nat) : List (Nat × LibF) → Option LibF
  | [] => none
  | (g, k) :: l => match Nat.beq f g with
    | true => some k
    | false => findL f l
def libEv (tab : List (Nat × LibF)) : Ev := fun _ f args st => match findL f tab with
  | some k => libV k args st
  | none => none
/-- The first that answers. -/
def orEv (a b : Ev) : Ev := fun rs f args st => match a rs f args st with
  | some l => some l
  | none => b rs f args st

/-- Does every way answer true? -/
def allTrue : List (V × St) → Bool
  | [] => true
  | (v, st) :: l => (match v with
    | .b x => (match dec st.pc x with | some true => true | _ => false)
    | _ => false) && allTrue l
end
end Go.Proofs.Ytnfnhhphoiebbaa.Sx
