/- The reader: what operations, code and calls do, as far as it is known. -/
import Derived.Test.YtnfnhhphoiebbaaSa
set_option linter.unusedVariables false
set_option linter.unusedSimpArgs false
namespace Go.Proofs.Ytnfnhhphoiebbaa.Sx
open Go
noncomputable section

mutual
def V.same : V → V → Bool
  | .und, .und => true
  | .n k x, .n l y => kindSame k l && N.same x y
  | .b x, .b y => N.same x y
  | .s l, .s m => natsSame l m
  | .ptr i o, .ptr j p => Nat.beq i j && Nat.beq o p
  | .nilp, .nilp => true
  | .slc i o l c, .slc j p m d => (Nat.beq i j && Nat.beq o p) && (Nat.beq l m && Nat.beq c d)
  | .slo i o f l, .slo j p g m => (Nat.beq i j && Nat.beq o p) && (Nat.beq f g && Nat.beq l m)
  | .nils, .nils => true
  | .map i, .map j => Nat.beq i j
  | .nilm, .nilm => true
  | .fn (.func f) a b, .fn (.func g) c d => Nat.beq f g && (V.sameL a c && V.sameL b d)
  | .nilf, .nilf => true
  | .ifc t v, .ifc u w => Nat.beq t u && V.same v w
  | .nili, .nili => true
  | .agg l, .agg m => V.sameL l m
  | .tup l, .tup m => V.sameL l m
  | .opq i, .opq j => Nat.beq i j
  | .yld i, .yld j => Nat.beq i j
  | .any i, .any j => Nat.beq i j
  | .sls i n, .sls j m => Nat.beq i j && N.same n m
  | .pts i x z o, .pts j y w p => (Nat.beq i j && N.same x y) && (Nat.beq z w && Nat.beq o p)
  | .alt c x y, .alt d u v => N.same c d && (V.same x u && V.same y v)
  | _, _ => false
def V.sameL : List V → List V → Bool
  | [], [] => true
  | a :: l, b :: m => V.same a b && V.sameL l m
  | _, _ => false
def natsSame : List Nat → List Nat → Bool
  | [], [] => true
  | a :: l, b :: m => Nat.beq a b && natsSame l m
  | _, _ => false
end

/-- Are two strings the same, byte by byte? -/
def strSame : List Nat → List Nat → Bool
  | [], [] => true
  | a :: l, b :: m => Nat.beq (a % 256) (b % 256) && strSame l m
  | _, _ => false

/-- What a read-only operation answers: a value; 'first say whether this is so'; nothing that is known. -/
inductive Q where
  | ok (v : V)
  | ask (x : N)
  | no

section
variable (P : Program) (glob : Nat → Option Nat)

def opd (tm : List V) : Operand → Option V
  | .tmp t => match tget .und tm t with | .any _ => none | .alt _ _ _ => none | v => some v
  | .const v => ofV v
  | .global g => match glob g with | some i => some (.ptr i 0) | none => none
  | .func f => some (.fn (.func f) [] [])
def opds (tm : List V) : List Operand → Option (List V)
  | [] => some []
  | x :: l => match opd glob tm x, opds tm l with
    | some v, some m => some (v :: m)
    | _, _ => none

def aggType (t : TypeId) : Option Bool := match P.underlying t with
  | some (.struct _) | some (.array _ _) => some true
  | some _ => some false
  | none => none
def sizeT (t : TypeId) : Option Nat := match P.info? t with | some i => some i.size | none => none

/-- n cells of a row, from off on. -/
def takeAt (l : List V) (off n : Nat) : Option (List V) :=
  match lenLe (off + n) l with
  | true => some (ttake n (tdrop l off))
  | false => none

def cellsAt (st : St) (i : Nat) : Option (List V) := match st.hp.get i with
  | some (.cells l _) => some l
  | some (.opn l _ _) => some l
  | some (.ro l) => some l
  | _ => none

/-- A number that is an index of a row. -/
def inRow (pc : Pc) (ix len : N) : Bool := match dec pc (mkLt ix len), dec pc (mkLt ix (.lit 0)) with
  | some true, some false => true
  | _, _ => false
/-- A cell of a row's element. -/
def rowCell (b s : Nat) (ix : N) (k : Option IntKind) (j : Nat) : V := match k with
  | some k => .n k (.sel (b + j) s ix (kLo k) (kHi k))
  | none => .b (.sel (b + j) s ix 0 1)
def rowCells (b s : Nat) (ix : N) : List (Option IntKind) → Nat → List V
  | [], _ => []
  | k :: ks, j => rowCell b s ix k j :: rowCells b s ix ks (j + 1)
def loadV (st : St) (t : TypeId) (v : V) : Q := match v with
  | .ptr i off => match cellsAt st i, aggType P t with
    | some l, some true => match sizeT P t with
      | some n => match takeAt l off n with | some m => .ok (.agg m) | none => .no
      | none => .no
    | some l, some false => match tat l off with | some v => .ok v | none => .no
    | _, _ => .no
  | .pts i ix z off => match st.hp.get i, aggType P t with
    | some (.row b s ks len), some ag => match inRow st.pc ix len && Nat.beq ks.length z with
      | true => match ag with
        | true => match sizeT P t with
          | some n => match Nat.ble (off + n) z with
            | true => .ok (.agg (rowCells b s ix ((ks.drop off).take n) off))
            | false => .no
          | none => .no
        | false => match ks[off]? with
          | some k => .ok (rowCell b s ix k off)
          | none => .no
      | false => .no
    | _, _ => .no
  | _ => .no

def partV (t : TypeId) (l : List V) (off : Nat) : Q := match aggType P t with
  | some true => match sizeT P t with
    | some n => match takeAt l off n with | some m => .ok (.agg m) | none => .no
    | none => .no
  | some false => match tat l off with | some v => .ok v | none => .no
  | none => .no

def bytesLt : List Nat → List Nat → Bool
  | _, [] => false
  | [], _ :: _ => true
  | a :: x, b :: y => Nat.blt a b || (Nat.beq a b && bytesLt x y)

/-- A truth that is written out. -/
def litTruth : N → Option Bool
  | .lit n => some (match ieq n 0 with | true => false | false => true)
  | _ => none
/-- Are two values of a type that is no interface, struct or array the same? -/
def eqPlain (pc : Pc) (t : TypeId) (x y : V) : Q := match P.underlying t, x, y with
  | some (.int _), .n k a, .n l b => match kindSame k l with | true => .ok (.b (mkEq a b)) | false => .no
  | some .bool, .b a, .b b => match litTruth b with
    | some true => .ok (.b a)
    | some false => .ok (.b (mkNot a))
    | none => match litTruth a with
      | some true => .ok (.b b)
      | some false => .ok (.b (mkNot b))
      | none => match dec pc a with
        | some true => .ok (.b b)
        | some false => .ok (.b (mkNot b))
        | none => match dec pc b with
          | some true => .ok (.b a)
          | some false => .ok (.b (mkNot a))
          | none => .ask a
  | some .string, .s l, .s m => .ok (.b (.lit (bI (strSame l m))))
  | some (.pointer _), .nilp, .nilp => .ok (.b (.lit 1))
  | some (.pointer _), .nilp, .ptr _ _ => .ok (.b (.lit 0))
  | some (.pointer _), .ptr _ _, .nilp => .ok (.b (.lit 0))
  | some (.pointer e), .ptr i o, .ptr j p => match sizeT P e with
    | some (_ + 1) => match Nat.beq i j with
      | true => .ok (.b (.lit (bI (Nat.beq o p))))
      | false => .no
    | _ => .no
  | some (.slice _), .nils, .nils => .ok (.b (.lit 1))
  | some (.slice _), .nils, .slc _ _ _ _ => .ok (.b (.lit 0))
  | some (.slice _), .slc _ _ _ _, .nils => .ok (.b (.lit 0))
  | some (.slice _), .nils, .slo _ _ _ _ => .ok (.b (.lit 0))
  | some (.slice _), .slo _ _ _ _, .nils => .ok (.b (.lit 0))
  | some (.map _ _), .nilm, .nilm => .ok (.b (.lit 1))
  | some (.map _ _), .nilm, .map _ => .ok (.b (.lit 0))
  | some (.map _ _), .map _, .nilm => .ok (.b (.lit 0))
  | some (.func _ _ _), .nilf, .nilf => .ok (.b (.lit 1))
  | some (.func _ _ _), .nilf, .fn _ _ _ => .ok (.b (.lit 0))
  | some (.func _ _ _), .fn _ _ _, .nilf => .ok (.b (.lit 0))
  | some (.func _ _ _), .nilf, .yld _ => .ok (.b (.lit 0))
  | some (.func _ _ _), .yld _, .nilf => .ok (.b (.lit 0))
  | _, _, _ => .no

/-- Both. -/
def mkAnd (c d : N) : N := match d with
  | .lit n => match ieq n 0 with | true => .lit 0 | false => c
  | d => .ite c d (.lit 0)
/-- Are two values the same, part by part? -/
def eqParts (k : TypeId → V → V → Q) (pc : Pc) (xs ys : List V) : List (TypeId × Nat) → Q
  | [] => .ok (.b (.lit 1))
  | (t, off) :: l => match partV P t xs off, partV P t ys off with
    | .ok a, .ok b => match k t a b with
      | .ok (.b c) => match dec pc c with
        | some false => .ok (.b (.lit 0))
        | some true => eqParts k pc xs ys l
        | none => match eqParts k pc xs ys l with
          | .ok (.b d) => .ok (.b (mkAnd c d))
          | .ask x => .ask x
          | _ => .no
      | .ask x => .ask x
      | _ => .no
    | _, _ => .no
/-- .. of rows of cells, one behind the other. -/
def eqZip (k : V → V → Q) (pc : Pc) : Nat → List V → List V → Q
  | 0, _, _ => .ok (.b (.lit 1))
  | n + 1, a :: xs, b :: ys => match k a b with
    | .ok (.b c) => match dec pc c with
      | some false => .ok (.b (.lit 0))
      | some true => eqZip k pc n xs ys
      | none => match eqZip k pc n xs ys with
        | .ok (.b d) => .ok (.b (mkAnd c d))
        | .ask x => .ask x
        | _ => .no
    | .ask x => .ask x
    | _ => .no
  | _, _, _ => .no
/-- A cell of its own? -/
def oneCell (e : TypeId) (z : Nat) : Bool := match aggType P e with
  | some false => Nat.beq z 1
  | _ => false
def structParts : List Field → List (TypeId × Nat)
  | [] => []
  | f :: l => match f.name == "_" with | true => structParts l | false => (f.type, f.offset) :: structParts l
def arrayParts (e z : Nat) : Nat → Nat → List (TypeId × Nat)
  | 0, _ => []
  | n + 1, i => (e, i * z) :: arrayParts e z n (i + 1)
def eqDeep : Nat → Pc → TypeId → V → V → Q
  | 0, _, _, _, _ => .no
  | n + 1, pc, t, x, y => match P.underlying t, x, y with
    | some (.struct fs), .agg xs, .agg ys => match P.stoodInHeld t with
      | true => .no
      | false => eqParts P (eqDeep n pc) pc xs ys (structParts fs.toList)
    | some (.array len e), .agg xs, .agg ys => match sizeT P e with
      | some z => match oneCell P e z with
        | true => eqZip (eqDeep n pc e) pc len xs ys
        | false => eqParts P (eqDeep n pc) pc xs ys (arrayParts e z len 0)
      | none => .no
    | _, _, _ => eqPlain P pc t x y

def isConstOp : Operand → Bool | .const _ => true | _ => false

def eqV (pc : Pc) (t : TypeId) (ox oy : Operand) (x y : V) : Q := match P.underlying t, x, y with
  | some (.interface _), .nili, .nili => match isConstOp ox || isConstOp oy with | true => .ok (.b (.lit 1)) | false => .no
  | some (.interface _), .nili, .ifc _ _ => .ok (.b (.lit 0))
  | some (.interface _), .ifc _ _, .nili => .ok (.b (.lit 0))
  | some (.interface _), .ifc u v, .ifc u' v' => match Nat.beq u u' with
    | false => .ok (.b (.lit 0))
    | true => match P.info? u with
      | some i => match i.comparable with | true => eqPlain P pc u v v' | false => .no
      | none => .no
  | _, .agg xs, .agg ys => match P.eqGuardType P.depth t with
    | true => .no
    | false => eqDeep P 4 pc t (.agg xs) (.agg ys)
  | _, _, _ => eqPlain P pc t x y

def notQ : Q → Q
  | .ok (.b x) => .ok (.b (mkNot x))
  | .ok _ => .no
  | q => q

/-- A number that stands open, of which few values are left. -/
def fewVar (pc : Pc) : N → Option N
  | .var i l h => match bndP pc (.var i l h) with
    | some (lo, hi) => match ilt lo hi && ile (hi - lo) 7 with
      | true => some (mkEq (.var i l h) (.lit lo))
      | false => none
    | none => none
  | .conv _ a => fewVar pc a
  | .ar _ _ a b => match b with
    | .lit _ => fewVar pc a
    | b => match a with
      | .lit _ => fewVar pc b
      | _ => none
  | _ => none
/-- A shift. -/
def shV (pc : Pc) (f : BinOp) (k : IntKind) (a b : N) : Q := match known pc b with
  | some n => .ok (.n k (mkAr f k a (.lit n)))
  | none => match fewVar pc b with
    | some x => .ask x
    | none => .ok (.n k (mkAr f k a b))
/-- A number that is known, written out. -/
def outN (pc : Pc) (b : N) : N := match known pc b with
  | some n => .lit n
  | none => b
/-- A literal less a number of which few values are left. -/
def litSub (pc : Pc) : N → Option N
  | .ar f _ a b => match f with
    | .sub => match a with
      | .lit _ => fewVar pc b
      | _ => none
    | _ => none
  | _ => none
/-- A comparison. -/
def cmpV (pc : Pc) (a b c : N) : Q := match litSub pc a with
  | some x => .ask x
  | none => match litSub pc b with
    | some x => .ask x
    | none => .ok (.b c)
def binV (pc : Pc) (f : BinOp) (t : TypeId) (ox oy : Operand) (x y : V) : Q := match x, y with
  | .n k a, .n l b => match f with
    | .shl | .shr => match dec pc (mkLt b (.lit 0)) with
      | some false => shV pc f k a b
      | some true => .no
      | none => .ask (mkLt b (.lit 0))
    | .add | .sub | .mul | .and | .or | .xor | .andNot => match kindSame k l with | true => .ok (.n k (mkAr f k a b)) | false => .no
    | .quo | .rem => match kindSame k l with
      | true => match dec pc (mkEq b (.lit 0)) with
        | some false => .ok (.n k (mkAr f k a (outN pc b)))
        | some true => .no
        | none => .ask (mkEq b (.lit 0))
      | false => .no
    | .eql => match kindSame k l with | true => .ok (.b (mkEq a b)) | false => .no
    | .neq => match kindSame k l with | true => .ok (.b (mkNot (mkEq a b))) | false => .no
    | .lss => match kindSame k l with | true => cmpV pc a b (mkLt a b) | false => .no
    | .gtr => match kindSame k l with | true => cmpV pc a b (mkLt b a) | false => .no
    | .leq => match kindSame k l with | true => cmpV pc a b (mkNot (mkLt b a)) | false => .no
    | .geq => match kindSame k l with | true => cmpV pc a b (mkNot (mkLt a b)) | false => .no
  | .s l, .s m => match f with
    | .add => match Nat.ble (l.length + m.length) 1099511627776 with | true => .ok (.s (l ++ m)) | false => .no
    | .eql => .ok (.b (.lit (bI (strSame l m))))
    | .neq => .ok (.b (.lit (bI (match strSame l m with | true => false | false => true))))
    | _ => .no
  | _, _ => match f with
    | .eql => eqV P pc t ox oy x y
    | .neq => notQ (eqV P pc t ox oy x y)
    | _ => .no

def unV (f : UnOp) (x : V) : Q := match f, x with
  | .neg, .n k a => .ok (.n k (mkAr .sub k (.lit 0) a))
  | .xor, .n k a => .ok (.n k (mkAr .xor k (.lit (match isSigned k with | true => -1 | false => kHi k)) a))
  | .not, .b a => .ok (.b (mkNot a))
  | _, _ => .no

def convV (src dst : TypeId) (x : V) : Q := match P.underlying src, P.underlying dst, x with
  | some _, some (.int k), .n _ a => .ok (.n k (mkConv k a))
  | some _, some .string, .s l => .ok (.s l)
  | _, _, _ => .no

/-- The one of these that it is, or the first that is to be asked. -/
def pickV (pc : Pc) (a : N) (len : Nat) (k : Nat → Q) : Nat → Int → Q
  | 0, _ => .no
  | n + 1, j => match dec pc (mkEq a (.lit j)) with
    | some true => match j with
      | .ofNat i => match Nat.blt i len with | true => k i | false => .no
      | .negSucc _ => .no
    | some false => pickV pc a len k n (j + 1)
    | none => .ask (mkEq a (.lit j))
/-- An index that is known, or what is to be asked of it. -/
def indexV (pc : Pc) (x : V) (len : Nat) (k : Nat → Q) : Q := match x with
  | .n _ a => match known pc a with
    | some (.ofNat i) => match Nat.blt i len with | true => k i | false => .no
    | some (.negSucc _) => .no
    | none => match bndP pc a with
      | some (lo, hi) => match ile (hi - lo) 400 with
        | true => pickV pc a len k (hi - lo + 1).toNat lo
        | false => .no
      | none => .no
  | _ => .no

def fieldAddrV (s : TypeId) (x : V) (f : Nat) : Q := match P.underlying s with
  | some (.struct fs) => match fs[f]?, x with
    | some fd, .ptr i off => match sizeT P fd.type with
      | some (_ + 1) => .ok (.ptr i (off + fd.offset))
      | _ => .no
    | some fd, .pts i ix z off => match sizeT P fd.type with
      | some (_ + 1) => .ok (.pts i ix z (off + fd.offset))
      | _ => .no
    | _, _ => .no
  | _ => .no
def fieldV (s : TypeId) (x : V) (f : Nat) : Q := match P.underlying s with
  | some (.struct fs) => match fs[f]?, x with
    | some fd, .agg l => partV P fd.type l fd.offset
    | _, _ => .no
  | _ => .no
def indexAddrV (pc : Pc) (t : TypeId) (x ix : V) : Q := match P.underlying t, x with
  | some (.array len elem), .ptr i off => match sizeT P elem with
    | some n => indexV pc ix len fun j => .ok (.ptr i (off + j * n))
    | none => .no
  | some (.slice elem), .slc i off len _ => match sizeT P elem with
    | some n => indexV pc ix len fun j => .ok (.ptr i (off + j * n))
    | none => .no
  | some (.slice elem), .slo i off _ len => match sizeT P elem with
    | some n => indexV pc ix len fun j => .ok (.ptr i (off + j * n))
    | none => .no
  | some (.slice elem), .sls i len => match sizeT P elem, ix with
    | some n, .n _ a => match inRow pc a len with
      | true => .ok (.pts i a n 0)
      | false => .no
    | _, _ => .no
  | _, _ => .no
def indexOfV (pc : Pc) (t : TypeId) (x ix : V) : Q := match P.underlying t, x with
  | some (.array len elem), .agg l => match sizeT P elem with
    | some n => indexV pc ix len fun j => partV P elem l (j * n)
    | none => .no
  | some .string, .s l => indexV pc ix l.length fun j => match l[j]? with | some c => .ok (.n .u8 (.lit (Int.ofNat (c % 256)))) | none => .no
  | _, _ => .no

/-- A key among a map's entries: the place, and the value. -/
inductive Found where
  | at (j : Nat) (v : V)
  | none
  | ask (x : N)
  | no
def findV (pc : Pc) (k : V) : List (V × V × Nat) → Nat → Found
  | [], _ => .none
  | (k', v, _) :: es, j => match k, k' with
    | .n a x, .n b y => match kindSame a b with
      | true => match dec pc (mkEq x y) with
        | some true => .at j v
        | some false => findV pc k es (j + 1)
        | Option.none => .ask (mkEq x y)
      | false => .no
    | .s l, .s m => match strSame l m with
      | true => .at j v
      | false => findV pc k es (j + 1)
    | _, _ => .no
def zeroV (t : TypeId) : Option V := match P.info? t with
  | some i => match i.zero with | some z => ofV z | none => none
  | none => none
/-- Fields that are plain, of a struct that is a key. -/
def keyParts (l : List V) : List Field → Bool
  | [] => true
  | f :: fs => match P.underlying f.type, partV P f.type l f.offset with
    | some (.int _), .ok _ => keyParts l fs
    | _, _ => false
def plainKey (t : TypeId) (k : V) : Bool := match P.underlying t, k with
  | some (.int a), .n b _ => kindSame a b
  | some .string, .s _ => true
  | some (.struct fs), .agg l => keyParts P l fs.toList
  | _, _ => false
/-- .. among entries whose keys are structs. -/
def findG (pc : Pc) (t : TypeId) (k : V) : List (V × V × Nat) → Nat → Found
  | [], _ => .none
  | (k', v, _) :: es, j => match eqDeep P 4 pc t k k' with
    | .ok (.b c) => match dec pc c with
      | some true => .at j v
      | some false => findG pc t k es (j + 1)
      | Option.none => .ask c
    | .ask x => .ask x
    | _ => .no
def findK (pc : Pc) (t : TypeId) (k : V) (es : List (V × V × Nat)) : Found := match k with
  | .agg l => findG P pc t (.agg l) es 0
  | k => findV pc k es 0
def lookupV (st : St) (t : TypeId) (m k : V) (ok : Bool) : Q := match P.underlying t with
  | some (.map kt et) => match plainKey P kt k with
    | true => match (match m with
        | .nilm => some []
        | .map i => match st.hp.get i with | some (.mp es _) => some es | _ => none
        | _ => none) with
      | some es => match findK P st.pc kt k es with
        | .at _ v => .ok (match ok with | true => .tup [v, .b (.lit 1)] | false => v)
        | .none => match zeroV P et with
          | some z => .ok (match ok with | true => .tup [z, .b (.lit 0)] | false => z)
          | none => .no
        | .ask x => .ask x
        | .no => .no
      | none => .no
    | false => .no
  | _ => .no

/-- A bound of a slice: a number that is known, or the default. -/
def boundV (pc : Pc) (x : Option V) (d most : Nat) : Option Nat := match x with
  | none => match Nat.ble d most with | true => some d | false => none
  | some (.n _ a) => match known pc a with
    | some (.ofNat i) => match Nat.ble i most with | true => some i | false => none
    | _ => none
  | some _ => none
def sliceV (pc : Pc) (t : TypeId) (x : V) (lo hi : Option V) : Q := match P.underlying t, x with
  | some .string, .s l => match boundV pc hi l.length l.length with
    | some h => match boundV pc lo 0 h with
      | some b => .ok (.s ((l.drop b).take (h - b)))
      | none => .no
    | none => .no
  | some (.array n e), .ptr i off => match boundV pc hi n n, sizeT P e with
    | some h, some z => match boundV pc lo 0 h with
      | some b => .ok (.slc i (match Nat.beq n b with | true => off | false => off + b * z) (h - b) (n - b))
      | none => .no
    | _, _ => .no
  | some (.slice e), .slc i off len cap => match boundV pc hi len cap, sizeT P e with
    | some h, some z => match boundV pc lo 0 h with
      | some b => .ok (.slc i (match Nat.beq cap b with | true => off | false => off + b * z) (h - b) (cap - b))
      | none => .no
    | _, _ => .no
  | some (.slice e), .nils => match boundV pc hi 0 0, sizeT P e with
    | some h, some _ => match boundV pc lo 0 h with
      | some _ => .ok .nils
      | none => .no
    | _, _ => .no
  | _, _ => .no

/-- How many elements of a row that has grown are known to have room, from a place on. -/
def roomV (st : St) (i off eoff z : Nat) : Option Nat := match st.hp.get i with
  | some (.opn l _ y) => match Nat.beq z y && (Nat.beq off (eoff * z) && Nat.blt 0 z) with
    | true => some ((l.length - off) / z)
    | false => none
  | _ => none
def moveV (b cap off z : Nat) : Nat := match Nat.beq cap b with | true => off | false => off + b * z
/-- Slices of rows that have grown, and such as tell their capacity. -/
def sliceMoreV (st : St) (t : TypeId) (x : V) (lo hi mx : Option V) : Q := match P.underlying t, x, mx with
  | some (.slice e), .slo i off eoff len, none => match sizeT P e with
    | some z => match roomV st i off eoff z with
      | some k => match boundV st.pc hi len k with
        | some h => match boundV st.pc lo 0 h with
          | some b => match Nat.blt b k || Nat.beq b 0 with
            | true => .ok (.slo i (off + b * z) (eoff + b) (h - b))
            | false => .no
          | none => .no
        | none => .no
      | none => .no
    | none => .no
  | some (.slice e), .slo i off eoff _, some m => match sizeT P e, hi with
    | some z, some hi => match roomV st i off eoff z with
      | some k => match boundV st.pc (some m) 0 k with
        | some c => match boundV st.pc (some hi) 0 c with
          | some h => match boundV st.pc lo 0 h with
            | some b => .ok (.slc i (moveV b c off z) (h - b) (c - b))
            | none => .no
          | none => .no
        | none => .no
      | none => .no
    | _, _ => .no
  | some (.slice e), .slc i off _ cap, some m => match sizeT P e, hi with
    | some z, some hi => match boundV st.pc (some m) 0 cap with
      | some c => match boundV st.pc (some hi) 0 c with
        | some h => match boundV st.pc lo 0 h with
          | some b => .ok (.slc i (moveV b c off z) (h - b) (c - b))
          | none => .no
        | none => .no
      | none => .no
    | _, _ => .no
  | some (.slice e), .nils, some m => match sizeT P e, hi with
    | some _, some hi => match boundV st.pc (some m) 0 0 with
      | some c => match boundV st.pc (some hi) 0 c with
        | some h => match boundV st.pc lo 0 h with
          | some _ => .ok .nils
          | none => .no
        | none => .no
      | none => .no
    | _, _ => .no
  | _, _, _ => .no
/-- A row that has grown, sliced from the end of what is known of it on: with nothing left, it stays where it is; else it moves. -/
def sliceEndV (st : St) (t : TypeId) (x : V) (lo hi : Option V) : Option (List (V × St)) := match P.underlying t, x with
  | some (.slice e), .slo i off eoff len => match sizeT P e with
    | some z => match roomV st i off eoff z with
      | some k => match boundV st.pc hi len k with
        | some h => match boundV st.pc lo 0 h with
          | some b => match Nat.beq b k with
            | true => some [(.slc i off 0 0, st), (.slo i (off + b * z) (eoff + b) 0, st)]
            | false => none
          | none => none
        | none => none
      | none => none
    | none => none
  | _, _ => none
def optV (tm : List V) : Option Operand → Option (Option V)
  | none => some none
  | some x => match opd glob tm x with | some v => some (some v) | none => none

def assertV (x : V) (asserted : TypeId) (ok : Bool) : Q := match P.underlying asserted, x with
  | some (.interface want), .ifc t v => match P.info? t with
    | some i => match Instr.missingMethod want i.methods with
      | none => .ok (match ok with | true => .tup [.ifc t v, .b (.lit 1)] | false => .ifc t v)
      | some _ => match ok, zeroV P asserted with
        | true, some z => .ok (.tup [z, .b (.lit 0)])
        | _, _ => .no
    | none => .no
  | some (.interface _), .nili => match ok, zeroV P asserted with
    | true, some z => .ok (.tup [z, .b (.lit 0)])
    | _, _ => .no
  | some _, .nili => match ok, zeroV P asserted with
    | true, some z => .ok (.tup [z, .b (.lit 0)])
    | _, _ => .no
  | some _, .ifc t v => match Nat.beq t asserted with
    | true => .ok (match ok with | true => .tup [v, .b (.lit 1)] | false => v)
    | false => match ok, zeroV P asserted with
      | true, some z => .ok (.tup [z, .b (.lit 0)])
      | _, _ => .no
  | _, _ => .no

def lenV (st : St) (t : TypeId) (x : V) : Q := match P.underlying t, x with
  | some .string, .s l => .ok (.n .i64 (.lit (Int.ofNat l.length)))
  | some (.array n _), _ => .ok (.n .i64 (.lit (Int.ofNat n)))
  | some (.slice _), .slc _ _ len _ => .ok (.n .i64 (.lit (Int.ofNat len)))
  | some (.slice _), .slo _ _ _ len => .ok (.n .i64 (.lit (Int.ofNat len)))
  | some (.slice _), .sls _ len => match len.bnd with
    | some (lo, _) => match ile 0 lo with | true => .ok (.n .i64 len) | false => .no
    | none => .no
  | some (.slice _), .nils => .ok (.n .i64 (.lit 0))
  | some (.map _ _), .nilm => .ok (.n .i64 (.lit 0))
  | some (.map _ _), .map i => match st.hp.get i with
    | some (.mp es _) => .ok (.n .i64 (.lit (Int.ofNat es.length)))
    | _ => .no
  | _, _ => .no

/-- Parts of a struct or an array, put into its zero's cells. -/
def V.cellsOf : V → List V
  | .agg l => l
  | v => [v]
def fillV (place : Nat → Option (Nat × Nat)) (l : List V) : List (Nat × V) → Option (List V)
  | [] => some l
  | (i, v) :: rest => match place i with
    | some (off, size) => match Nat.beq v.cellsOf.length size && Nat.ble (off + size) l.length with
      | true => match v.isAny with | true => none | false => fillV place (putAt l off v.cellsOf) rest
      | false => none
    | none => none
def partsV (tm : List V) : List (Nat × Operand) → Option (List (Nat × V))
  | [] => some []
  | (i, x) :: l => match opd glob tm x, partsV tm l with
    | some v, some m => some ((i, v) :: m)
    | _, _ => none
def placesOf (fs : List Field) : Option (List (Nat × Nat)) := match fs with
  | [] => some []
  | f :: l => match sizeT P f.type, placesOf l with
    | some n, some m => some ((f.offset, n) :: m)
    | _, _ => none
def buildV (t : TypeId) (parts : List (Nat × V)) : Q := match zeroV P t, P.underlying t with
  | some z, some (.struct fs) => match placesOf P fs.toList with
    | some ps => match fillV (fun i => ps[i]?) z.cellsOf parts with
      | some l => .ok (.agg l)
      | none => .no
    | none => .no
  | some z, some (.array _ elem) => match sizeT P elem with
    | some n => match fillV (fun i => some (i * n, n)) z.cellsOf parts with
      | some l => .ok (.agg l)
      | none => .no
    | none => .no
  | _, _ => .no

/-- min, max -/
def overV (big : Bool) (a b : N) : N := match big with | false => mkLt b a | true => mkLt a b
def leastV (big : Bool) (pc : Pc) : V → List V → Q
  | v, [] => .ok v
  | .n k a, .n l b :: m => match kindSame k l with
    | true => match dec pc (overV big a b) with
      | some true => leastV big pc (.n k b) m
      | some false => leastV big pc (.n k a) m
      | none => .ask (overV big a b)
    | false => .no
  | _, _ => .no

/-- The cells of the first n elements of a slice, or of a string. -/
def firstV (st : St) (size n : Nat) : V → Option (List V)
  | .nils => match Nat.beq n 0 with | true => some [] | false => none
  | .slc i off _ _ => match cellsAt st i with | some l => takeAt l off (n * size) | none => none
  | .slo i off _ _ => match cellsAt st i with | some l => takeAt l off (n * size) | none => none
  | .s l => match Nat.ble n l.length && Nat.beq size 1 with | true => some ((l.take n).map fun c => .n .u8 (.lit (Int.ofNat (c % 256)))) | false => none
  | _ => none
def lenOfV : V → Option Nat
  | .nils => some 0
  | .slc _ _ n _ => some n
  | .slo _ _ _ n => some n
  | .s l => some l.length
  | _ => none

/-- Bytes that are known. -/
def bytesOf (pc : Pc) : List V → Option (List Nat)
  | [] => some []
  | .n .u8 a :: l => match known pc a, bytesOf pc l with
    | some (.ofNat n), some m => some (n :: m)
    | _, _ => none
  | _ => none
def isSlc : V → Bool | .nils => true | .slc _ _ _ _ => true | .slo _ _ _ _ => true | _ => false
/-- Bytes as a string. -/
def bytesV (st : St) (src dst : TypeId) (x : V) : Q := match P.underlying src, P.underlying dst with
  | some (.slice e), some .string => match P.underlying e, isSlc x, lenOfV x with
    | some (.int .u8), true, some n => match firstV st 1 n x with
      | some l => match bytesOf st.pc l with | some m => .ok (.s m) | none => .no
      | none => .no
    | _, _, _ => .no
  | _, _ => .no

/-- What a read-only operation answers. -/
def readV (st : St) (tm : List V) (o : Oper) : Q := match o.op with
  | .move x | .assign x => match opd glob tm x with | some v => .ok v | none => .no
  | .pick c a b => match opd glob tm c with
    | some (.b x) => match dec st.pc x with
      | some true => match opd glob tm a with | some v => .ok v | none => .no
      | some false => match opd glob tm b with | some v => .ok v | none => .no
      | none => .ask x
    | _ => .no
  | .build t parts => match partsV glob tm parts.toList with | some l => buildV P t l | none => .no
  | .load t a => match opd glob tm a with | some v => loadV P st t v | none => .no
  | .nilCheck x => match opd glob tm x with
    | some (.ptr i off) => .ok (.ptr i off)
    | some (.pts i ix z off) => .ok (.pts i ix z off)
    | some (.fn (.func f) a b) => .ok (.fn (.func f) a b)
    | some (.yld i) => .ok (.yld i)
    | some (.ifc t v) => .ok (.ifc t v)
    | _ => .no
  | .binOp f t x y _ => match opd glob tm x, opd glob tm y with
    | some v, some w => binV P st.pc f t x y v w
    | _, _ => .no
  | .unOp f _ x => match opd glob tm x with | some v => unV f v | none => .no
  | .convert s d x => match opd glob tm x with
    | some v => match convV P s d v with | .no => bytesV P st s d v | q => q
    | none => .no
  | .makeInterface t x => match P.underlying t, opd glob tm x with
    | some (.interface _), _ => .no
    | some _, some v => .ok (.ifc t v)
    | _, _ => .no
  | .makeFunc g a b => match opds glob tm a.toList, opds glob tm b.toList with
    | some l, some m => .ok (.fn g l m)
    | _, _ => .no
  | .slice t x lo hi mx => match opd glob tm x, optV glob tm lo, optV glob tm hi, optV glob tm mx with
    | some v, some a, some b, some c => match c with
      | none => match sliceV P st.pc t v a b with | .no => sliceMoreV P st t v a b none | q => q
      | some c => sliceMoreV P st t v a b (some c)
    | _, _, _, _ => .no
  | .fieldAddr s x f => match opd glob tm x with | some v => fieldAddrV P s v f | none => .no
  | .field s x f => match opd glob tm x with | some v => fieldV P s v f | none => .no
  | .indexAddr t x ix => match opd glob tm x, opd glob tm ix with | some v, some w => indexAddrV P st.pc t v w | _, _ => .no
  | .index t x ix => match opd glob tm x, opd glob tm ix with | some v, some w => indexOfV P st.pc t v w | _, _ => .no
  | .lookup t m k ok => match opd glob tm m, opd glob tm k with | some v, some w => lookupV P st t v w ok | _, _ => .no
  | .typeAssert x _ asserted ok => match opd glob tm x with | some v => assertV P v asserted ok | none => .no
  | .extract x i => match opd glob tm x with
    | some (.tup l) => match l[i]? with | some v => .ok v | none => .no
    | _ => .no
  | .call c => match c.callee with
    | .builtin .len => match c.args.toList, c.argTypes.toList with
      | [x], [t] => match opd glob tm x with | some v => lenV P st t v | none => .no
      | _, _ => .no
    | .builtin .min => match opds glob tm c.args.toList with | some (v :: l) => leastV false st.pc v l | _ => .no
    | .builtin .max => match opds glob tm c.args.toList with | some (v :: l) => leastV true st.pc v l | _ => .no
    | _ => .no
  | _ => .no

/-! Operations that turn memory, or call -/

/-- What a call, or a round of a range over a function, leaves: each way's value and state. -/
abbrev Rnd := List V → St → Option (List (V × St))
abbrev Rnds := List (Nat × Rnd)
abbrev Ev := Rnds → FuncId → Rnd
/-- What a frame is in: how calls are read, the rounds that may be called, the loop whose round it is. -/
structure Cx where
  ev : Ev
  rs : Rnds
  ro : Option Nat
def Cx.call (E : Cx) (f : FuncId) : Rnd := E.ev E.rs f
def findR (i : Nat) : Rnds → Option Rnd
  | [] => none
  | (j, k) :: rs => match Nat.beq i j with | true => some k | false => findR i rs

def rep (n : Nat) (l : List V) : List V := match n with
  | 0 => []
  | n + 1 => l ++ rep n l

/-- Parts that come one behind the other, and are all there are. -/
def fillSeq (z : Nat) : Nat → Nat → List (Nat × V) → Option (List V)
  | 0, _, [] => some []
  | n + 1, j, (i, v) :: rest => match Nat.beq i j && Nat.beq v.cellsOf.length z with
    | true => match v.isAny with
      | true => none
      | false => match fillSeq z n (j + 1) rest with
        | some m => some (v.cellsOf ++ m)
        | none => none
    | false => none
  | _, _, _ => none
def fillR (len z : Nat) (c : List V) (l : List (Nat × V)) : Option (List V) := match fillSeq z len 0 l with
  | some m => some m
  | none => fillV (fun i => some (i * z, z)) (rep len c) l

def storeV (st : St) (t : TypeId) (a v : V) : Option St := match a, sizeT P t with
  | .ptr i off, some n => match Nat.beq v.cellsOf.length n && v.cellsOf.all V.one with
    | true => match st.hp.get i with
      | some (.cells l e) => match lenLe (off + n) l with | true => some (st.put i (.cells (putAt l off v.cellsOf) e)) | false => none
      | some (.opn l e z) => match lenLe (off + n) l with | true => some (st.put i (.opn (putAt l off v.cellsOf) e z)) | false => none
      | _ => none
    | false => none
  | _, _ => none

def setEntry (v : V) : List (V × V × Nat) → Nat → List (V × V × Nat)
  | [], _ => []
  | (k, u, n) :: es, 0 => (k, v, n) :: es
  | e :: es, j + 1 => e :: setEntry v es j

/-- A key all of whose numbers are written out. -/
def litNum : V → Bool
  | .n _ (.lit _) => true
  | _ => false
def litKey : V → Bool
  | .n _ (.lit _) => true
  | .s _ => true
  | .agg l => l.all litNum
  | _ => false
def mapPutV (st : St) (t : TypeId) (m k v : V) : Option (List (V × St)) ⊕ N := match P.underlying t, m with
  | some (.map kt _), .map i => match plainKey P kt k with
    | true => match st.hp.get i with
      | some (.mp es c) => match findK P st.pc kt k es with
        | .at j _ => match litKey k with
          | true => match es[j]? with
            | some (k', _, _) => match V.same k' k with
              | true => .inl (some [(.und, st.put i (.mp (setEntry v es j) c))])
              | false => .inl none
            | none => .inl none
          | false => .inl none
        | .none => .inl (some [(.und, st.put i (.mp (es ++ [(k, v, c)]) (c + 1)))])
        | .ask x => .inr x
        | .no => .inl none
      | _ => .inl none
    | false => .inl none
  | _, _ => .inl none

/-- A map's entry, made if it isn't there: what it holds, and its stamp. -/
def mapEntryV (st : St) (t : TypeId) (m k : V) : Option (List (V × St)) ⊕ N := match P.underlying t, m with
  | some (.map kt et), .map i => match plainKey P kt k with
    | true => match st.hp.get i with
      | some (.mp es c) => match findK P st.pc kt k es with
        | .at j _ => match litKey k with
          | true => match es[j]? with
            | some (k', v, n) => match V.same k' k with
              | true => .inl (some [(.tup [v, .n .i64 (.lit (Int.ofNat n))], st.put i (.mp es c))])
              | false => .inl none
            | none => .inl none
          | false => .inl none
        | .none => match zeroV P et with
          | some z => .inl (some [(.tup [z, .n .i64 (.lit (Int.ofNat c))], st.put i (.mp (es ++ [(k, z, c)]) (c + 1)))])
          | none => .inl none
        | .ask x => .inr x
        | .no => .inl none
      | _ => .inl none
    | false => .inl none
  | _, _ => .inl none
/-- The entry of a stamp. -/
def stampAt (b : Nat) : List (V × V × Nat) → Nat → Option Nat
  | [], _ => none
  | (_, _, n) :: es, j => match Nat.beq n b with
    | true => some j
    | false => stampAt b es (j + 1)
def entryStoreV (st : St) (m s v : V) : Option (List (V × St)) := match m, s with
  | .map i, .n _ (.lit (.ofNat b)) => match st.hp.get i with
    | some (.mp es c) => match stampAt b es 0 with
      | some j => some [(.und, st.put i (.mp (setEntry v es j) c))]
      | none => none
    | _ => none
  | _, _ => none

/-- The new elements of an append, put behind what there is. -/
def appendTo (st : St) (e : TypeId) (size n : Nat) (new : List V) : V → Option (List (V × St))
  | .nils => match Nat.beq n 0 with
    | true => some [(.nils, st)]
    | false => match st.new (.opn new e size) with
      | some (j, st') => some [(.slo j 0 0 n, st')]
      | none => none
  | .slc b off len cap => match Nat.ble (len + n) cap with
    | true => match st.hp.get b with
      | some (.cells l t) => match Nat.ble (off + len * size + new.length) l.length with
        | true => some [(.slc b off (len + n) cap, st.put b (.cells (putAt l (off + len * size) new) t))]
        | false => none
      | _ => none
    | false => match firstV st size len (.slc b off len cap), Nat.ble len 1048576 with
      | some old, true => match st.new (.opn (old ++ new) e size) with
        | some (j, st') => some [(.slo j 0 0 (len + n), st')]
        | none => none
      | _, _ => none
  | .slo b off eoff len => match (match roomV st b off eoff size with | some k => Nat.ble (len + n) k | none => false) with
   | true => match st.hp.get b with
    | some (.opn l t z) => match Nat.ble (off + len * size + new.length) l.length with
      | true => some [(.slo b off eoff (len + n), st.put b (.opn (putAt l (off + len * size) new) t z))]
      | false => none
    | _ => none
   | false => match Nat.beq off 0 && (Nat.beq eoff 0 && Nat.ble len 1048576), st.hp.get b with
    | true, some (.opn l t z) => match Nat.beq z size && Nat.beq t e with
      | true => match takeAt l 0 (len * size) with
        | some old => match (st.put b .dead).new (.opn (old ++ new) e size) with
          | some (j, st') => some [(.slo j 0 0 (len + n), st')]
          | none => none
        | none => none
      | false => none
    | _, _ => none
  | _ => none

def notIntT : TypeDesc → Bool | .int _ => false | _ => true
def appendV (st : St) (ts tx : TypeId) (s x : V) : Option (List (V × St)) := match P.underlying ts, P.underlying tx with
  | some (.slice e), some dx => match notIntT dx with
    | true => match P.info? e, zeroV P e, lenOfV x with
      | some i, some z, some n => match Nat.beq z.cellsOf.length i.size && (Nat.ble i.bytes 65536 && Nat.ble n 1048576) with
        | true => match firstV st i.size n x with
          | some new => match new.all V.one with
            | true => appendTo st e i.size n new s
            | false => none
          | none => none
        | false => none
      | _, _, _ => none
    | false => none
  | _, _ => none

def minN (a b : Nat) : Nat := match Nat.ble b a with | true => b | false => a
def copyV (st : St) (td : TypeId) (d s : V) : Option (List (V × St)) := match P.underlying td, lenOfV d, lenOfV s with
  | some (.slice e), some a, some b => match sizeT P e with
    | some z => match firstV st z (minN a b) s with
      | some new => match new.all V.one with
        | true => match d with
          | .nils => some [(.n .i64 (.lit 0), st)]
          | .slc i off _ _ => match st.hp.get i with
            | some (.cells l t) => match lenLe (off + new.length) l with
              | true => some [(.n .i64 (.lit (Int.ofNat (minN a b))), st.put i (.cells (putAt l off new) t))]
              | false => none
            | _ => none
          | .slo i off _ _ => match st.hp.get i with
            | some (.opn l t w) => match lenLe (off + new.length) l with
              | true => some [(.n .i64 (.lit (Int.ofNat (minN a b))), st.put i (.opn (putAt l off new) t w))]
              | false => none
            | _ => none
          | _ => none
        | false => none
      | none => none
    | none => none
  | _, _, _ => none

def natOf (pc : Pc) : V → Option Nat
  | .n .i64 a => match known pc a with | some (.ofNat n) => some n | _ => none
  | _ => none

/-- Elements that are made nought. -/
def clearV (st : St) (t : TypeId) (x : V) : Option (List (V × St)) := match P.underlying t, x with
  | some (.slice _), .nils => some [(.und, st)]
  | some (.slice e), .slc i off n _ => match n with
    | 0 => some [(.und, st)]
    | _ + 1 => match zeroV P e, st.hp.get i with
      | some z, some (.cells l t) => match Nat.ble (off + (rep n z.cellsOf).length) l.length && z.cellsOf.all V.one with
        | true => some [(.und, st.put i (.cells (putAt l off (rep n z.cellsOf)) t))]
        | false => none
      | _, _ => none
  | some (.slice e), .slo i off _ n => match n with
    | 0 => some [(.und, st)]
    | _ + 1 => match zeroV P e, st.hp.get i with
      | some z, some (.opn l t w) => match Nat.ble (off + (rep n z.cellsOf).length) l.length && z.cellsOf.all V.one with
        | true => some [(.und, st.put i (.opn (putAt l off (rep n z.cellsOf)) t w))]
        | false => none
      | _, _ => none
  | _, _ => none

/-- The method of that name, of a value in an interface. -/
def methodV (t : TypeId) (name : String) : Option FuncId := match P.info? t with
  | some i => match i.methods.find? (·.name == name) with
    | some m => match m.path.toList, m.func with
      | [], some (g, ptr) => match P.underlying t, ptr with
        | some (.pointer _), true => some g
        | some (.pointer _), false => none
        | some _, false => some g
        | _, _ => none
      | _, _ => none
    | none => none
  | none => none
/-- The function that a value of a function type, or a method's name, is; and all that it is given. -/
def calleeV (tm : List V) (c : Call) : Option (FuncId × List V) := match c.callee with
  | .value f => match opd glob tm f, opds glob tm c.args.toList with
    | some (.fn (.func g) a b), some l => some (g, a ++ l ++ b)
    | _, _ => none
  | .invoke r name => match opd glob tm r, opds glob tm c.args.toList with
    | some (.ifc t v), some l => match methodV P t name with
      | some g => some (g, v :: l)
      | none => none
    | _, _ => none
  | _ => none

/-- A function with a body of its own. -/
def goodFn (f : FuncId) : Bool := match P.funcs[f]? with
  | some fn => fn.body.isSome && !(fn.name == "runtime.NumGoroutine")
  | none => false

/-- A call of a round. -/
def yldOf (tm : List V) (c : Call) : Option (Nat × List V) := match c.callee with
  | .value f => match opd glob tm f, opds glob tm c.args.toList with
    | some (.yld i), some l => some (i, l)
    | _, _ => none
  | _ => none

/-- What another operation does: each way's value and state; or what is to be asked first. -/
def actV (E : Cx) (st : St) (tm : List V) (o : Oper) : Option (List (V × St)) ⊕ N := match o.op with
  | .alloc t => match zeroV P t with
    | some z => match st.new (.cells z.cellsOf t) with
      | some (i, st') => .inl (some [(.ptr i 0, st')])
      | none => .inl none
    | none => .inl none
  | .box t x => match opd glob tm x with
    | some v => match v.cellsOf.all V.one with
      | true => match st.new (.cells v.cellsOf t) with
        | some (i, st') => .inl (some [(.ptr i 0, st')])
        | none => .inl none
      | false => .inl none
    | none => .inl none
  | .buildSlice t len parts => match partsV glob tm parts.toList, P.underlying t with
    | some l, some (.slice e) => match sizeT P e, zeroV P e with
      | some z, some v => match Nat.beq v.cellsOf.length z && Nat.ble (len * z) 65536 with
        | true => match fillR len z v.cellsOf l with
          | some cs => match cs.all V.one with
            | true => match st.new (.cells cs e) with
              | some (i, st') => .inl (some [(.slc i 0 len len, st')])
              | none => .inl none
            | false => .inl none
          | none => .inl none
        | false => .inl none
      | _, _ => .inl none
    | _, _ => .inl none
  | .makeSlice t a b => match opd glob tm a, opd glob tm b, P.underlying t with
    | some x, some y, some (.slice e) => match natOf st.pc x, natOf st.pc y, P.info? e, zeroV P e with
      | some len, some cap, some i, some v => match (Nat.ble len cap && Nat.ble (cap * i.size) 1048576) && (Nat.beq v.cellsOf.length i.size && (Nat.ble i.bytes 65536 && Nat.ble cap 1048576)) with
        | true => match st.new (.cells (rep cap v.cellsOf) e) with
          | some (j, st') => .inl (some [(.slc j 0 len cap, st')])
          | none => .inl none
        | false => .inl none
      | _, _, _, _ => .inl none
    | _, _, _ => .inl none
  | .slice t x lo hi none => match opd glob tm x, optV glob tm lo, optV glob tm hi with
    | some v, some a, some b => .inl (sliceEndV P st t v a b)
    | _, _, _ => .inl none
  | .makeMap _ none => match st.new (.mp [] 0) with
    | some (i, st') => .inl (some [(.map i, st')])
    | none => .inl none
  | .store t a x => match opd glob tm a, opd glob tm x with
    | some v, some w => match storeV P st t v w with
      | some st' => .inl (some [(.und, st')])
      | none => .inl none
    | _, _ => .inl none
  | .mapUpdate t m k x => match opd glob tm m, opd glob tm k, opd glob tm x with
    | some u, some v, some w => mapPutV P st t u v w
    | _, _, _ => .inl none
  | .mapEntry t m k => match opd glob tm m, opd glob tm k with
    | some u, some v => mapEntryV P st t u v
    | _, _ => .inl none
  | .entryStore _ m s x => match opd glob tm m, opd glob tm s, opd glob tm x with
    | some u, some v, some w => .inl (entryStoreV st u v w)
    | _, _, _ => .inl none
  | .insert t m k x => match opd glob tm m, opd glob tm k, opd glob tm x with
    | some u, some v, some w => mapPutV P st t u v w
    | _, _, _ => .inl none
  | .convert sr d x => match P.underlying sr, P.underlying d, opd glob tm x with
    | some .string, some (.slice e), some (.s l) => match P.underlying e with
      | some (.int .u8) => match st.new (.ro (l.map fun c => .n .u8 (.lit (Int.ofNat (c % 256))))) with
        | some (i, st') => .inl (some [(.slo i 0 0 l.length, st')])
        | none => .inl none
      | _ => .inl none
    | _, _, _ => .inl none
  | .call c => match c.callee with
    | .builtin .append => match opds glob tm c.args.toList, c.argTypes.toList with
      | some [s, x], [ts, tx] => .inl (appendV P st ts tx s x)
      | _, _ => .inl none
    | .builtin .copy => match opds glob tm c.args.toList, c.argTypes.toList with
      | some [d, s], td :: _ => .inl (copyV P st td d s)
      | _, _ => .inl none
    | .builtin .clear => match opds glob tm c.args.toList, c.argTypes.toList with
      | some [x], [t] => .inl (clearV P st t x)
      | _, _ => .inl none
    | .builtin _ => .inl none
    | _ => match calleeV P glob tm c with
      | some (f, l) => match goodFn P f with | true => .inl (E.call f l st) | false => .inl none
      | none => match yldOf glob tm c with
        | some (i, l) => match st.hp.get i, findR i E.rs with
          | some (.lp _ _), some k => .inl (k l st)
          | _, _ => .inl none
        | none => .inl none
  | _ => .inl none

/-- What an operation leaves: each way's temporaries and state. -/
def setDst (tm : List V) (d : Option Tmp) (v : V) : List V := match d with
  | some t => tset tm t v
  | none => tm

abbrev Fr := List V × List (V × List V)     -- temporaries; what is deferred

def stDefer (tm : List V) (o : Oper) : Option (V × List V) := match o.op with
  | .defer c => match c.callee with
    | .value f => match opd glob tm f, opds glob tm c.args.toList with
      | some (.fn (.func g) a b), some l => some (.fn (.func g) a b, l)
      | _, _ => none
    | .invoke r name => match opd glob tm r, opds glob tm c.args.toList with
      | some (.ifc t v), some l => some (.fn (.method name) [] [], .ifc t v :: l)
      | _, _ => none
    | _ => none
  | _ => none

def forkPc (st : St) (x : N) (t : Bool) : St := { st with pc := addPc x t st.pc }

/-- One operation that is wanted. -/
def doOp (E : Cx) : Nat → Oper → Fr → St → Option (List (Fr × St))
  | 0, _, _, _ => none
  | n + 1, o, fr, st => match readV P glob st fr.1 o with
    | .ok v => some [((setDst fr.1 o.dst v, fr.2), st)]
    | .ask x => match doOp E n o fr (forkPc st x true), doOp E n o fr (forkPc st x false) with
      | some l, some m => some (l ++ m)
      | _, _ => none
    | .no => match (match E.ro with | none => stDefer glob fr.1 o | some _ => none) with
      | some d => some [((setDst fr.1 o.dst .und, d :: fr.2), st)]
      | none => match actV P glob E st fr.1 o with
        | .inl (some l) => some (l.map fun (v, st') => ((setDst fr.1 o.dst v, fr.2), st'))
        | .inl none => none
        | .inr x => match doOp E n o fr (forkPc st x true), doOp E n o fr (forkPc st x false) with
          | some l, some m => some (l ++ m)
          | _, _ => none

/-- Is an operation wanted? -/
inductive Want where
  | yes
  | nay
  | ask (x : N)
  | bad
def wantV (ops : Array Oper) (pc : Pc) (tm : List V) (o : Oper) : Want := match o.guard with
  | none => .yes
  | some (j, want) => match tat ops.toList j with
    | some p => match p.dst with
      | some d => match tat tm d with
        | some (.b x) => match dec pc x with
          | some t => match t, want with
            | true, true | false, false => .yes
            | _, _ => .nay
          | none => .ask x
        | some (.opq _) => .bad
        | some (.any _) => .bad
        | some (.alt _ _ _) => .bad
        | _ => .nay
      | none => .nay
    | none => .nay

def oneOp (E : Cx) (lf : Nat) (ops : Array Oper) (o : Oper) (fr : Fr) (st : St) : Option (List (Fr × St)) := match wantV ops st.pc fr.1 o with
  | .yes => doOp P glob E lf o fr st
  | .nay => some [((setDst fr.1 o.dst .und, fr.2), st)]
  | .bad => none
  | .ask x =>
    let go (t : Bool) : Option (List (Fr × St)) := match wantV ops (addPc x t st.pc) fr.1 o with
      | .yes => doOp P glob E lf o fr (forkPc st x t)
      | .nay => some [((setDst fr.1 o.dst .und, fr.2), forkPc st x t)]
      | _ => none
    match go true, go false with
    | some l, some m => some (l ++ m)
    | _, _ => none

def bindL {α β : Type} (f : α → Option (List β)) : List α → Option (List β)
  | [] => some []
  | a :: l => match f a with
    | some x => match bindL f l with
      | some y => some (x ++ y)
      | none => none
    | none => none

def listOps (E : Cx) (lf : Nat) (ops : Array Oper) : List Oper → Fr → St → Option (List (Fr × St))
  | [], fr, st => some [(fr, st)]
  | o :: l, fr, st => match oneOp P glob E lf ops o fr st with
    | some xs => bindL (fun (fr', st') => listOps E lf ops l fr' st') xs
    | none => none
end
end
end Go.Proofs.Ytnfnhhphoiebbaa.Sx
