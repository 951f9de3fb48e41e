import PyProof.Rows.All
import HandS.Base
import Wide.All
import OpenK.AllK
import Wide.FinOn
import HandS.ForMost
import HandS.ForExc
import HandS.TryMany
import HandS.ExcValue
import HandS.TupAny
import HandS.Walk
import HandS.Wide
import HandS.WideBits
import HandS.Flow
import HandS.IsInst
import HandS.StrMore
import HandS.HeadHook1
import HandS.TupLe
import HandS.Ends
import HandS.More
import HandS.Words
import HandS.WordsExc
import HandS.Defaults
import HandS.ExcIs
import HandS.ExcField
import HandS.HeadHook3
import HandS.Small
import HandS.Conv
import HandS.Deep
import HandS.Zip
import HandS.Style
import KE.KExcStr
import PyProof.ExcRepr
import PyProof.ReprRoads
import KE.KStateDown
import HandS.Head0
import HandS.Head1
import HandS.Head2
import HandS.HeadEnd
import HandS.HeadHook2
import PySem.Challenge.RW_leasefiles_k19_whole_sheets_by_their_dee
section MiCoreS
set_option Elab.async false
set_option linter.all false
/-! Mi: a small language, its values, its stores and its runs. -/
namespace Mi

inductive Val where
  | non | bl (b : Bool) | int (i : Int) | str (s : List Nat) | tup (xs : List Val) | frz (xs : List Val) | ref (n : Nat) | fn (x : PySem.Str)
inductive Obj where
  | lst (xs : List Val) | dic (kvs : List (Val × Val)) | exv (c : Nat)
abbrev Store := List Obj
structure Exc where
  cls : Nat
  arg : Option Val
inductive Res (α : Type) where
  | ok (a : α) (M : Store) | exc (x : Exc) (M : Store) | bad
def Res.bind {α β : Type} (r : Res α) (f : α → Store → Res β) : Res β := match r with
  | .ok a M => f a M
  | .exc x M => .exc x M
  | .bad => .bad
@[simp] theorem Res.bind_ok {α β : Type} (a : α) (M : Store) (f : α → Store → Res β) : (Res.ok a M).bind f = f a M := rfl
@[simp] theorem Res.bind_exc {α β : Type} (x : Exc) (M : Store) (f : α → Store → Res β) : (Res.exc x M : Res α).bind f = .exc x M := rfl
@[simp] theorem Res.bind_bad {α β : Type} (f : α → Store → Res β) : (Res.bad : Res α).bind f = .bad := rfl
/-- where nothing may be raised -/
def Res.calm {α : Type} : Res α → Res α
  | .exc _ _ => .bad
  | r => r
@[simp] theorem Res.calm_ok {α : Type} (a : α) (M : Store) : (Res.ok a M).calm = .ok a M := rfl
@[simp] theorem Res.calm_exc {α : Type} (x : Exc) (M : Store) : (Res.exc x M : Res α).calm = .bad := rfl
@[simp] theorem Res.calm_bad {α : Type} : (Res.bad : Res α).calm = .bad := rfl
abbrev St := List (Option Val)
def LIM : Nat := 16777216

/-! ### values -/
mutual
def noRef : Val → Bool
  | .ref _ => false
  | .frz _ => false
  | .fn _ => false
  | .tup xs => noRefs xs
  | _ => true
def noRefs : List Val → Bool
  | [] => true
  | x :: xs => noRef x && noRefs xs
end
mutual
/-- no reference at or beyond n -/
def below (n : Nat) : Val → Bool
  | .ref k => decide (k < n)
  | .tup xs => belows n xs
  | .frz xs => belows n xs
  | _ => true
def belows (n : Nat) : List Val → Bool
  | [] => true
  | x :: xs => below n x && belows n xs
end
mutual
def eqV : Val → Val → Bool
  | .non, .non => true
  | .bl a, .bl b => a == b
  | .bl a, .int j => (if a then 1 else 0) == j
  | .int i, .bl b => i == (if b then 1 else 0)
  | .int i, .int j => i == j
  | .str a, .str b => a == b
  | .tup xs, .tup ys => eqVs xs ys
  | _, _ => false
def eqVs : List Val → List Val → Bool
  | [], [] => true
  | x :: xs, y :: ys => eqV x y && eqVs xs ys
  | _, _ => false
end
mutual
def depth : Val → Nat
  | .tup xs => depths xs + 1
  | _ => 0
def depths : List Val → Nat
  | [] => 0
  | x :: xs => max (depth x) (depths xs)
end

/-! ### operations -/
inductive Op2 where
  | add | sub | mul | fdiv | mod | pow
inductive Cmp where
  | eq | ne | lt | le | gt | ge | isN | isNotN | inn | notIn
inductive Cl where
  | int | bool | str | tuple | list | dict | own (c : Nat)
  deriving DecidableEq
def small (i : Int) : Bool := decide (i.natAbs < 2 ^ 64)
def mid (i : Int) : Bool := decide (i.natAbs < 2 ^ 2000)
def mulOk (i j : Int) : Bool := small i || small j || (mid i && mid j)
def op2 (o : Op2) (a b : Val) (M : Store) : Res Val := match o, a, b with
  | .add, .int i, .int j => .ok (.int (i + j)) M
  | .sub, .int i, .int j => .ok (.int (i - j)) M
  | .mul, .int i, .int j => if mulOk i j then .ok (.int (i * j)) M else .bad
  | .fdiv, .int i, .int j => if decide (0 < j) && mid j then .ok (.int (i / j)) M else .bad
  | .mod, .int i, .int j => if decide (0 < j) then .ok (.int (i % j)) M else .bad
  | .pow, .int i, .int j => if decide (0 ≤ j) && decide (j ≤ 1000000) && small i then .ok (.int (i ^ j.toNat)) M else .bad
  | .add, .str x, .str y => if x.length + y.length ≤ LIM then .ok (.str (x ++ y)) M else .bad
  | .add, .tup x, .tup y => if x.length + y.length ≤ LIM then .ok (.tup (x ++ y)) M else .bad
  | .add, .ref m, .ref n => (match M[m]?, M[n]? with
    | some (.lst x), some (.lst y) => if x.length + y.length ≤ LIM then .ok (.ref M.length) (M ++ [.lst (x ++ y)]) else .bad
    | _, _ => .bad)
  | .mul, .str x, .int j => if decide (1 ≤ j) && decide (j ≤ 1000000) && decide (x.length * j.toNat ≤ LIM) then .ok (.str (List.replicate j.toNat x).flatten) M else .bad
  | _, _, _ => .bad
def isNon : Val → Bool
  | .non => true
  | _ => false
def flatB : Val → Bool
  | .non => true
  | .bl _ => true
  | .int _ => true
  | .str _ => true
  | _ => false
/-- equality of two lists of things without references -/
def eqL (M : Store) (m n : Nat) : Option Bool := match M[m]?, M[n]? with
  | some (.lst xs), some (.lst ys) => if noRefs xs && noRefs ys && decide (depths xs ≤ 59) && decide (depths ys ≤ 59) then some (eqVs xs ys) else none
  | _, _ => none
def cmpV (o : Cmp) (a b : Val) (M : Store) : Option Bool := match o, a, b with
  | .isN, a, .non => some (isNon a)
  | .isNotN, a, .non => some (!isNon a)
  | .isN, .bl a, .bl b => some (decide (a = b))
  | .isNotN, .bl a, .bl b => some (!decide (a = b))
  | .lt, .int i, .int j => some (decide (i < j))
  | .le, .int i, .int j => some (decide (i ≤ j))
  | .gt, .int i, .int j => some (decide (j < i))
  | .ge, .int i, .int j => some (decide (j ≤ i))
  | .lt, .str i, .str j => some (decide (i < j))
  | .le, .str i, .str j => some (!decide (j < i))
  | .eq, .ref m, .ref n => eqL M m n
  | .ne, .ref m, .ref n => (eqL M m n).map (!·)
  | .eq, a, b => if noRef a && noRef b && decide (depth a ≤ 60) && decide (depth b ≤ 60) then some (eqV a b) else none
  | .ne, a, b => if noRef a && noRef b && decide (depth a ≤ 60) && decide (depth b ≤ 60) then some (!eqV a b) else none
  | .inn, .str [c], .str y => some (decide (c ∈ y))
  | .notIn, .str [c], .str y => some (!decide (c ∈ y))
  | .inn, x, .tup ys => if flatB x && ys.all flatB then some (ys.any fun y => eqV y x) else none
  | .notIn, x, .tup ys => if flatB x && ys.all flatB then some (!ys.any fun y => eqV y x) else none
  | _, _, _ => none
/-- the place of an index -/
def place (n : Nat) (i : Int) : Option Nat := if 0 ≤ i then (if i < n then some i.toNat else none) else if -(n : Int) ≤ i then some (i + n).toNat else none
def itemAt {α : Type} (xs : List α) (i : Int) : Option α := (place xs.length i).bind fun j => xs[j]?
def bound (n d : Nat) : Option Int → Nat
  | none => d
  | some v => if v < 0 then (v + (n : Int)).toNat else min v.toNat n
def cut {α : Type} (xs : List α) (lo hi : Option Int) : List α := (xs.drop (bound xs.length 0 lo)).take (bound xs.length xs.length hi - bound xs.length 0 lo)
def truth (M : Store) : Val → Option Bool
  | .non => some false
  | .bl b => some b
  | .int i => some (i != 0)
  | .str s => some (!s.isEmpty)
  | .tup xs => some (!xs.isEmpty)
  | .frz xs => some (!xs.isEmpty)
  | .ref n => match M[n]? with
    | some (.lst xs) => some (!xs.isEmpty)
    | _ => none
  | .fn _ => none
def isOf (c : Cl) (v : Val) (M : Store) : Option Bool := match c, v with
  | .own _, _ => none
  | _, .fn _ => none
  | .int, .int _ => some true
  | .int, .bl _ => some true
  | .bool, .bl _ => some true
  | .str, .str _ => some true
  | .tuple, .tup _ => some true
  | .list, .frz _ => some true
  | c, .ref n => match M[n]? with
    | some (.lst _) => some (decide (c = .list))
    | some (.dic _) => some (decide (c = .dict))
    | some (.exv _) => some false
    | none => none
  | _, _ => some false
/-- the items that are walked; what must not change meanwhile -/
abbrev Gd := List (Nat × List Val)
def itemsOf (M : Store) : Val → Option (List Val × Gd)
  | .tup xs => some (xs, [])
  | .frz xs => some (xs, [])
  | .str s => some (s.map fun c => .str [c], [])
  | .ref n => match M[n]? with
    | some (.lst xs) => some (xs, [(n, xs)])
    | _ => none
  | _ => none
def still (M : Store) (xs : List Val) : Gd → Prop
  | [] => True
  | p :: r => M[p.1]? = some (.lst p.2) ∧ still M xs r
def lenV (M : Store) (v : Val) : Option Nat := match v with
  | .str s => some s.length
  | .tup xs => some xs.length
  | .frz xs => some xs.length
  | .ref n => match M[n]? with
    | some (.lst xs) => some xs.length
    | _ => none
  | _ => none
def up (c : Nat) : Nat := if 97 ≤ c ∧ c ≤ 122 then c - 32 else c

/-! ### the language -/
def pairUp : List Val → List (Val × Val)
  | k :: v :: r => (k, v) :: pairUp r
  | _ => []
def keyE : Val → Val → Bool
  | .int i, .int j => i == j
  | .str x, .str y => x == y
  | _, _ => false
def keyV : Val → Bool
  | .int _ => true
  | .str _ => true
  | _ => false
/-- keys that are ints and texts, all unlike -/
def keysOk : List (Val × Val) → Bool
  | [] => true
  | p :: r => keyV p.1 && (r.all fun q => !keyE p.1 q.1) && keysOk r
inductive Bi where
  | len | int | tuple | repr | abs
inductive Bil where
  | all | any | sum | tuple
inductive Bn where
  | min | max
inductive Md where
  | pop | append | insert
inductive Mt where
  | isascii | isprintable | upper
inductive Tg where
  | one (i : Nat) | many (is : List Nat)
mutual
inductive E where
  | var (i : Nat) | cst (v : Val) | op (o : Op2) (a b : E) | cmp (o : Cmp) (a b : E) | chain (o p : Cmp) (a b c : E)
  | neg (a : E) | not (a : E) | and (a b : E) | or (a b : E) | ite (c a b : E)
  | tup (es : Es) | lst (l : L) | dic (kvs : Es) | ix (a i : E) | ixl (l : L) (i : E) | sl (a : E) (lo hi : Eo)
  | isi (a : E) (c : Cl) | call (g : Nat) (es : Es) | bi (b : Bi) (a : E) | bil (b : Bil) (l : L) | mt (m : Mt) (a : E) | join (a : E) (l : L)
  | newx (c : Nat)
  | inl (neg : Bool) (a : E) (l : L) | bin (b : Bn) (x y : E) | joinv (a e : E) | mtd (m : Md) (o : E) (es : Es)
  | callv (i : Nat) (es : Es) | tget (x : PySem.Str) (a : E) | tin (neg : Bool) (a : E) (x : PySem.Str) | isis (a : E) (cs : List Cl)
inductive Es where
  | nil | cons (e : E) (es : Es)
inductive Eo where
  | none | some (e : E)
inductive L where
  | disp (es : Es) | comp (own : List Nat) (t : Tg) (src : Src) (cs : Es) (e : E) | list (e : E) | sl (a : E) (lo hi : Eo) | rng2 (a b : E)
inductive Src where
  | seq (e : E) | fresh (l : L) | rng (a : E) | zip (a b : E) | rng2 (a b : E)
end
mutual
inductive S where
  | set (i : Nat) (e : E) | unp (is : List Nat) (e : E) | par (i j : Nat) (a b : E) | par3 (i j k : Nat) (a b c : E) | six (o i v : E) | expr (e : E) | ret (e : E) | retN
  | ite (c : E) (a b : Ss) | loop (t : Tg) (src : Src) (b : Ss) | whl (c : E) (b : Ss) | brk | cnt | pass
  | rais (c : Nat) | tri (b : Ss) (hs : Hs)
inductive Ss where
  | nil | cons (s : S) (ss : Ss)
inductive Hs where
  | nil | cons (c : Nat) (b : Ss) (hs : Hs)
end
/-! ### its runs -/
def wiped (σ : St) : List Nat → St
  | [] => σ
  | v :: vs => (wiped σ vs).set v none
def put (t : Tg) (v : Val) (σ : St) : Option St := match t with
  | .one i => some (σ.set i (some v))
  | .many is => match v with
    | .tup xs => if xs.length = is.length then some ((is.zip xs).foldl (fun s p => s.set p.1 (some p.2)) σ) else none
    | _ => none
open Classical in
/-- a comprehension's turns -/
noncomputable def turns (f : Val → Store → Res (Option Val)) (all : List Val) (g : Gd) : List Val → Store → Res (List Val)
  | [], M => if still M all g then .ok [] M else .bad
  | x :: xs, M => if still M all g then (f x M).calm.bind fun y M1 => (turns f all g xs M1).bind fun ys M2 => .ok (match y with | some y => y :: ys | none => ys) M2 else .bad
def ofOpt {α : Type} (o : Option α) (M : Store) : Res α := match o with
  | some a => .ok a M
  | none => .bad
def strsOf : List Val → Option (List (List Nat))
  | [] => some []
  | .str s :: xs => (strsOf xs).map (s :: ·)
  | _ :: _ => none
def intsOf : List Val → Option (List Int)
  | [] => some []
  | .int i :: xs => (intsOf xs).map (i :: ·)
  | _ :: _ => none
def joined (sep : List Nat) : List (List Nat) → List Nat
  | [] => []
  | [x] => x
  | x :: y :: r => x ++ sep ++ joined sep (y :: r)
def boolsOf : List Val → Option (List Bool)
  | [] => some []
  | .bl b :: xs => (boolsOf xs).map (b :: ·)
  | _ :: _ => none
abbrev CallF := Nat → List Val → Store → Res Val
/-- the module's defs by name, its tables with text keys -/
structure Gx where
  fno : PySem.Str → Option Nat
  tab : PySem.Str → Option (List (List Nat × Val))
/-- what is known of the world: calls, repr -/
structure Cf where
  call : CallF
  repr : Val → Store → Option (List Nat)
  eqx : Gx
  sub : Nat → Nat → Bool
def bi1 (cf : Cf) (b : Bi) (v : Val) (M : Store) : Res Val := match b with
  | .len => ofOpt ((lenV M v).map fun (n : Nat) => Val.int (n : Int)) M
  | .int => match v with
    | .int i => .ok (.int i) M
    | .bl k => .ok (.int (if k then 1 else 0)) M
    | _ => .bad
  | .tuple => match v with
    | .tup xs => .ok (.tup xs) M
    | .ref n => match M[n]? with
      | some (.lst xs) => .ok (.tup xs) M
      | _ => .bad
    | _ => .bad
  | .repr => ofOpt ((cf.repr v M).map fun s => .str s) M
  | .abs => match v with
    | .int i => .ok (.int (if i < 0 then -i else i)) M
    | _ => .bad
def bil1 (b : Bil) (xs : List Val) (M : Store) : Res Val := match b with
  | .all => ofOpt ((boolsOf xs).map fun bs => .bl (bs.all id)) M
  | .any => ofOpt ((boolsOf xs).map fun bs => .bl (bs.any id)) M
  | .sum => ofOpt ((intsOf xs).map fun ns => .int ns.sum) M
  | .tuple => .ok (.tup xs) M
def mt1 (m : Mt) (v : Val) (M : Store) : Res Val := match m, v with
  | .isascii, .str _ => .ok (.bl true) M
  | .isprintable, .str s => .ok (.bl (s.all fun c => decide (32 ≤ c ∧ c ≤ 126))) M
  | .upper, .str s => if decide (s.length ≤ 5592405) then .ok (.str (s.map up)) M else .bad
  | _, _ => .bad
def slV (v : Val) (lo hi : Option Int) (M : Store) : Res Val := match v with
  | .str s => .ok (.str (cut s lo hi)) M
  | .tup xs => .ok (.tup (cut xs lo hi)) M
  | .frz xs => .ok (.ref M.length) (M ++ [.lst (cut xs lo hi)])
  | .ref n => match M[n]? with
    | some (.lst xs) => .ok (.ref M.length) (M ++ [.lst (cut xs lo hi)])
    | _ => .bad
  | _ => .bad
/-- what a dict holds -/
def dicGet (kvs : List (Val × Val)) (y : Val) : Option Val := (kvs.find? fun p => keyE p.1 y).map (·.2)
/-- a dict with another value for a key -/
def dicPut (kvs : List (Val × Val)) (y z : Val) : List (Val × Val) := if (kvs.any fun p => keyE p.1 y) = true then kvs.map (fun p => if keyE p.1 y = true then (p.1, z) else p) else kvs ++ [(y, z)]
def ixV (v i : Val) (M : Store) : Option Val := match v, i with
  | .str s, .int k => (itemAt s k).map fun c => .str [c]
  | .tup xs, .int k => itemAt xs k
  | .frz xs, .int k => itemAt xs k
  | .ref n, y => match M[n]? with
    | some (.lst xs) => (match y with
      | .int k => itemAt xs k
      | _ => none)
    | some (.dic kvs) => dicGet kvs y
    | _ => none
  | _, _ => none
def bin1 (b : Bn) (x y : Val) (M : Store) : Res Val := match b, x, y with
  | .min, .int i, .int j => .ok (.int (if j < i then j else i)) M
  | .max, .int i, .int j => .ok (.int (if j > i then j else i)) M
  | _, _, _ => .bad
def isLst (M : Store) : Val → Bool
  | .ref n => match M[n]? with
    | some (.lst _) => true
    | _ => false
  | _ => false
/-- a method of a list, that may change it -/
def mtd1 (m : Md) (v : Val) (args : List Val) (M : Store) : Res Val := match v with
  | .ref n => match M[n]? with
    | some (.lst xs) => match m, args with
      | .append, [y] => if xs.length < LIM then .ok .non (M.set n (.lst (xs ++ [y]))) else .bad
      | .pop, [.int i] => match place xs.length i with
        | some k => match xs[k]? with
          | some y => .ok y (M.set n (.lst (xs.eraseIdx k)))
          | none => .bad
        | none => .bad
      | .pop, [] => match xs[xs.length - 1]? with
        | some y => .ok y (M.set n (.lst xs.dropLast))
        | none => .bad
      | .insert, [.int i, y] => if decide (0 ≤ i) && decide (i < 2 ^ 63) && decide (xs.length < LIM) then .ok .non (M.set n (.lst (xs.take i.toNat ++ [y] ++ xs.drop i.toNat))) else .bad
      | _, _ => .bad
    | _ => .bad
  | _ => .bad
def tabGet (g : Gx) (x : PySem.Str) (y : Val) : Option Val := match y with
  | .str s => (g.tab x).bind fun kvs => (kvs.find? fun p => p.1 == s).map (·.2)
  | _ => none
def tabIn (g : Gx) (x : PySem.Str) (y : Val) : Option Bool := match y with
  | .str s => (g.tab x).map fun kvs => kvs.any fun p => p.1 == s
  | _ => none
def noExv (M : Store) : Val → Bool
  | .ref n => match M[n]? with
    | some (.exv _) => false
    | _ => true
  | _ => true
def anyOf : List Cl → Val → Store → Option Bool
  | [], _, _ => some false
  | c :: cs, v, M => match isOf c v M with
    | some true => some true
    | some false => anyOf cs v M
    | none => none
def isOfs (cs : List Cl) (v : Val) (M : Store) : Option Bool := if noExv M v && !cs.isEmpty && decide (cs.length ≤ 10) then anyOf cs v M else none
/-- is it among a row of things without references -/
def inl1 (neg : Bool) (x : Val) (xs : List Val) : Option Bool := if noRef x && noRefs xs && decide (depth x ≤ 60) && decide (depths xs ≤ 59) then some (if neg then !(xs.any fun z => eqV z x) else xs.any fun z => eqV z x) else none
def asInt : Val → Option Int
  | .int i => some i
  | _ => none
/-- range(i, j): its items -/
def rngV (i j : Int) : List Val := (List.range (j - i).toNat).map fun k => .int (i + (k : Nat))
def rngOk (i j : Int) : Bool := decide (-(2 ^ 62) ≤ i) && decide (i < 2 ^ 62) && decide (-(2 ^ 62) ≤ j) && decide (j < 2 ^ 62) && decide (j - i ≤ 16777216)
/-- pairs of two rows -/
def zipV : List Val → List Val → List Val
  | x :: xs, y :: ys => .tup [x, y] :: zipV xs ys
  | _, _ => []
mutual
noncomputable def ev (cf : Cf) : E → St → Store → Res Val
  | .var i, σ, M => match σ[i]? with
    | some (some v) => .ok v M
    | _ => .bad
  | .cst v, _, M => .ok v M
  | .op o a b, σ, M => (ev cf a σ M).bind fun x M1 => (ev cf b σ M1).bind fun y M2 => op2 o x y M2
  | .cmp o a b, σ, M => (ev cf a σ M).bind fun x M1 => (ev cf b σ M1).bind fun y M2 => ofOpt ((cmpV o x y M2).map .bl) M2
  | .chain o p a b c, σ, M => (ev cf a σ M).bind fun x M1 => (ev cf b σ M1).bind fun y M2 => (ofOpt (cmpV o x y M2) M2).bind fun k M3 =>
    if k then (ev cf c σ M3).bind fun z M4 => ofOpt ((cmpV p y z M4).map .bl) M4 else .ok (.bl false) M3
  | .neg a, σ, M => (ev cf a σ M).bind fun x M1 => match x with
    | .int i => .ok (.int (-i)) M1
    | _ => .bad
  | .not a, σ, M => (ev cf a σ M).bind fun x M1 => (ofOpt (truth M1 x) M1).bind fun k M2 => .ok (.bl (!k)) M2
  | .and a b, σ, M => (ev cf a σ M).bind fun x M1 => (ofOpt (truth M1 x) M1).bind fun k M2 => if k then ev cf b σ M2 else .ok x M2
  | .or a b, σ, M => (ev cf a σ M).bind fun x M1 => (ofOpt (truth M1 x) M1).bind fun k M2 => if k then .ok x M2 else ev cf b σ M2
  | .ite c a b, σ, M => (ev cf c σ M).bind fun x M1 => (ofOpt (truth M1 x) M1).bind fun k M2 => if k then ev cf a σ M2 else ev cf b σ M2
  | .tup es, σ, M => (evs cf es σ M).bind fun xs M1 => if xs.length ≤ LIM then .ok (.tup xs) M1 else .bad
  | .lst l, σ, M => (evL cf l σ M).bind fun xs M1 => .ok (.ref M1.length) (M1 ++ [.lst xs])
  | .dic kvs, σ, M => (evs cf kvs σ M).bind fun xs M1 => if keysOk (pairUp xs) then .ok (.ref M1.length) (M1 ++ [.dic (pairUp xs)]) else .bad
  | .ix a i, σ, M => (ev cf a σ M).bind fun x M1 => (ev cf i σ M1).bind fun y M2 => ofOpt (ixV x y M2) M2
  | .ixl l i, σ, M => (evL cf l σ M).bind fun xs M1 => (ev cf i σ M1).bind fun y M2 => ofOpt ((asInt y).bind (itemAt xs)) M2
  | .sl a lo hi, σ, M => (ev cf a σ M).bind fun x M1 => (evo cf lo σ M1).bind fun l M2 => (evo cf hi σ M2).bind fun h M3 => slV x l h M3
  | .isi a c, σ, M => (ev cf a σ M).bind fun x M1 => ofOpt ((isOf c x M1).map .bl) M1
  | .call g es, σ, M => (evs cf es σ M).bind fun xs M1 => cf.call g xs M1
  | .bi b a, σ, M => (ev cf a σ M).bind fun x M1 => bi1 cf b x M1
  | .bil b l, σ, M => (evL cf l σ M).bind fun xs M1 => bil1 b xs M1
  | .mt m a, σ, M => (ev cf a σ M).bind fun x M1 => mt1 m x M1
  | .join a l, σ, M => (ev cf a σ M).bind fun x M1 => match x with
    | .str sep => (evL cf l σ M1).bind fun xs M2 => match strsOf xs with
      | some zs => if (zs.map List.length).sum + zs.length * sep.length ≤ LIM then .ok (.str (joined sep zs)) M2 else .bad
      | none => .bad
    | _ => .bad
  | .newx c, _, M => .ok (.ref M.length) (M ++ [.exv c])
  | .inl g a l, σ, M => (ev cf a σ M).bind fun x M1 => (evL cf l σ M1).bind fun xs M2 => ofOpt ((inl1 g x xs).map .bl) M2
  | .bin b x y, σ, M => (ev cf x σ M).bind fun i M1 => (ev cf y σ M1).bind fun j M2 => bin1 b i j M2
  | .joinv a e, σ, M => (ev cf a σ M).bind fun x M1 => match x with
    | .str sep => (ev cf e σ M1).bind fun v M2 => match v with
      | .ref n => match M2[n]? with
        | some (.lst xs) => match strsOf xs with
          | some zs => if (zs.map List.length).sum + zs.length * sep.length ≤ LIM then .ok (.str (joined sep zs)) M2 else .bad
          | none => .bad
        | _ => .bad
      | _ => .bad
    | _ => .bad
  | .callv i es, σ, M => (match σ[i]? with
    | some (some (.fn x)) => (match cf.eqx.fno x with
      | some g => (evs cf es σ M).bind fun xs M1 => cf.call g xs M1
      | none => .bad)
    | _ => .bad)
  | .tget x a, σ, M => (ev cf a σ M).bind fun y M1 => ofOpt (tabGet cf.eqx x y) M1
  | .tin g a x, σ, M => (ev cf a σ M).bind fun y M1 => ofOpt ((tabIn cf.eqx x y).map fun k => .bl (if g then !k else k)) M1
  | .isis a cs, σ, M => (ev cf a σ M).bind fun x M1 => ofOpt ((isOfs cs x M1).map .bl) M1
  | .mtd m o es, σ, M => (ev cf o σ M).bind fun x M1 => if isLst M1 x then (evs cf es σ M1).bind fun xs M2 => mtd1 m x xs M2 else .bad
noncomputable def evs (cf : Cf) : Es → St → Store → Res (List Val)
  | .nil, _, M => .ok [] M
  | .cons e es, σ, M => (ev cf e σ M).bind fun x M1 => (evs cf es σ M1).bind fun xs M2 => .ok (x :: xs) M2
noncomputable def evo (cf : Cf) : Eo → St → Store → Res (Option Int)
  | .none, _, M => .ok none M
  | .some e, σ, M => (ev cf e σ M).bind fun x M1 => match x with
    | .int i => .ok (some i) M1
    | _ => .bad
/-- a clause's tests, one after another -/
noncomputable def evt (cf : Cf) : Es → St → Store → Res Bool
  | .nil, _, M => .ok true M
  | .cons e es, σ, M => (ev cf e σ M).bind fun x M1 => (ofOpt (truth M1 x) M1).bind fun k M2 => if k then evt cf es σ M2 else .ok false M2
noncomputable def evL (cf : Cf) : L → St → Store → Res (List Val)
  | .disp es, σ, M => (evs cf es σ M).bind fun xs M1 => if xs.length ≤ LIM then .ok xs M1 else .bad
  | .comp own t src cs e, σ, M => (evS cf src σ M).bind fun p M1 => (turns (fun x M2 => match put t x (wiped σ own) with
      | some σ2 => (evt cf cs σ2 M2).bind fun k M3 => if k then (ev cf e σ2 M3).bind fun y M4 => .ok (some y) M4 else .ok none M3
      | none => .bad) p.1 p.2 p.1 M1).bind fun ys M5 => if ys.length ≤ LIM then .ok ys M5 else .bad
  | .list a, σ, M => (ev cf a σ M).bind fun x M1 => match x with
    | .tup xs => .ok xs M1
    | .frz xs => .ok xs M1
    | .ref n => match M1[n]? with
      | some (.lst xs) => .ok xs M1
      | _ => .bad
    | _ => .bad
  | .sl a lo hi, σ, M => (ev cf a σ M).bind fun x M1 => (evo cf lo σ M1).bind fun l M2 => (evo cf hi σ M2).bind fun h M3 => match x with
    | .frz xs => .ok (cut xs l h) M3
    | .ref n => match M3[n]? with
      | some (.lst xs) => .ok (cut xs l h) M3
      | _ => .bad
    | _ => .bad
  | .rng2 a b, σ, M => (ev cf a σ M).bind fun x M1 => (ev cf b σ M1).bind fun y M2 => match x, y with
    | .int i, .int j => if rngOk i j then .ok (rngV i j) M2 else .bad
    | _, _ => .bad
noncomputable def evS (cf : Cf) : Src → St → Store → Res (List Val × Gd)
  | .seq e, σ, M => (ev cf e σ M).bind fun x M1 => ofOpt (itemsOf M1 x) M1
  | .fresh l, σ, M => (evL cf l σ M).bind fun xs M1 => .ok (xs, []) M1
  | .rng a, σ, M => (ev cf a σ M).bind fun x M1 => match x with
    | .int j => if decide (j < 2 ^ 62) && decide (-(2 ^ 62) ≤ j) then .ok ((List.range j.toNat).map fun i => .int (i : Nat), []) M1 else .bad
    | _ => .bad
  | .zip a b, σ, M => (ev cf a σ M).bind fun x M1 => (ev cf b σ M1).bind fun y M2 => match x, y with
    | .tup xs, .tup ys => .ok (zipV xs ys, []) M2
    | .ref m, .ref n => (match M2[m]?, M2[n]? with
      | some (.lst xs), some (.lst ys) => .ok (zipV xs ys, [(m, xs), (n, ys)]) M2
      | _, _ => .bad)
    | _, _ => .bad
  | .rng2 a b, σ, M => (ev cf a σ M).bind fun x M1 => (ev cf b σ M1).bind fun y M2 => match x, y with
    | .int i, .int j => if rngOk i j then .ok (rngV i j, []) M2 else .bad
    | _, _ => .bad
end
inductive Out where
  | nx (σ : St) (M : Store) | ret (v : Val) (M : Store) | brk (σ : St) (M : Store) | cnt (σ : St) (M : Store) | exc (x : Exc) (σ : St) (M : Store) | bad
def Out.on {α : Type} (r : Res α) (σ : St) (f : α → Store → Out) : Out := match r with
  | .ok a M => f a M
  | .exc x M => .exc x σ M
  | .bad => .bad
@[simp] theorem Out.on_ok {α : Type} (a : α) (M : Store) (σ : St) (f : α → Store → Out) : Out.on (Res.ok a M) σ f = f a M := rfl
@[simp] theorem Out.on_exc {α : Type} (x : Exc) (M : Store) (σ : St) (f : α → Store → Out) : Out.on (Res.exc x M : Res α) σ f = .exc x σ M := rfl
@[simp] theorem Out.on_bad {α : Type} (σ : St) (f : α → Store → Out) : Out.on (Res.bad : Res α) σ f = .bad := rfl
def Out.seq (r : Out) (f : St → Store → Out) : Out := match r with
  | .nx σ M => f σ M
  | r => r
@[simp] theorem Out.seq_nx (σ : St) (M : Store) (f : St → Store → Out) : (Out.nx σ M).seq f = f σ M := rfl
@[simp] theorem Out.seq_ret (v : Val) (M : Store) (f : St → Store → Out) : (Out.ret v M).seq f = .ret v M := rfl
@[simp] theorem Out.seq_brk (σ : St) (M : Store) (f : St → Store → Out) : (Out.brk σ M).seq f = .brk σ M := rfl
@[simp] theorem Out.seq_cnt (σ : St) (M : Store) (f : St → Store → Out) : (Out.cnt σ M).seq f = .cnt σ M := rfl
@[simp] theorem Out.seq_exc (x : Exc) (σ : St) (M : Store) (f : St → Store → Out) : (Out.exc x σ M).seq f = .exc x σ M := rfl
@[simp] theorem Out.seq_bad (f : St → Store → Out) : Out.bad.seq f = .bad := rfl
/-- behind a turn of a loop: on, or out of it -/
def Out.turn (r : Out) (f : St → Store → Out) : Out := match r with
  | .nx σ M => f σ M
  | .cnt σ M => f σ M
  | .brk σ M => .nx σ M
  | r => r
@[simp] theorem Out.turn_nx (σ : St) (M : Store) (f : St → Store → Out) : (Out.nx σ M).turn f = f σ M := rfl
@[simp] theorem Out.turn_cnt (σ : St) (M : Store) (f : St → Store → Out) : (Out.cnt σ M).turn f = f σ M := rfl
@[simp] theorem Out.turn_brk (σ : St) (M : Store) (f : St → Store → Out) : (Out.brk σ M).turn f = .nx σ M := rfl
@[simp] theorem Out.turn_ret (v : Val) (M : Store) (f : St → Store → Out) : (Out.ret v M).turn f = .ret v M := rfl
@[simp] theorem Out.turn_exc (x : Exc) (σ : St) (M : Store) (f : St → Store → Out) : (Out.exc x σ M).turn f = .exc x σ M := rfl
@[simp] theorem Out.turn_bad (f : St → Store → Out) : Out.bad.turn f = .bad := rfl
/-- where nothing may be raised -/
def Out.calm (r : Out) : Out := match r with
  | .exc _ _ _ => .bad
  | r => r
@[simp] theorem Out.calm_nx (σ : St) (M : Store) : (Out.nx σ M).calm = .nx σ M := rfl
@[simp] theorem Out.calm_ret (v : Val) (M : Store) : (Out.ret v M).calm = .ret v M := rfl
@[simp] theorem Out.calm_brk (σ : St) (M : Store) : (Out.brk σ M).calm = .brk σ M := rfl
@[simp] theorem Out.calm_cnt (σ : St) (M : Store) : (Out.cnt σ M).calm = .cnt σ M := rfl
@[simp] theorem Out.calm_exc (x : Exc) (σ : St) (M : Store) : (Out.exc x σ M).calm = .bad := rfl
@[simp] theorem Out.calm_bad : Out.bad.calm = .bad := rfl
open Classical in
noncomputable def rounds (f : Val → St → Store → Out) (all : List Val) (g : Gd) : List Val → St → Store → Out
  | [], σ, M => if still M all g then .nx σ M else .bad
  | x :: xs, σ, M => if still M all g then (f x σ M).turn fun σ1 M1 => rounds f all g xs σ1 M1 else .bad
def whiles (t : St → Store → Res Bool) (f : St → Store → Out) : Nat → St → Store → Out
  | 0, _, _ => .bad
  | n + 1, σ, M => Out.on (t σ M) σ fun k M1 => if k then (f σ M1).turn fun σ2 M2 => whiles t f n σ2 M2 else .nx σ M1
def WHL : Nat := 1000000000000
mutual
noncomputable def ex (cf : Cf) : S → St → Store → Out
  | .set i e, σ, M => Out.on (ev cf e σ M) σ fun v M1 => .nx (σ.set i (some v)) M1
  | .unp is e, σ, M => Out.on (ev cf e σ M) σ fun v M1 => match put (.many is) v σ with
    | some σ1 => .nx σ1 M1
    | none => .bad
  | .par i j a b, σ, M => Out.on (ev cf a σ M) σ fun x M1 => Out.on (ev cf b σ M1) σ fun y M2 => .nx ((σ.set i (some x)).set j (some y)) M2
  | .par3 i j k a b c, σ, M => Out.on (ev cf a σ M) σ fun x M1 => Out.on (ev cf b σ M1) σ fun y M2 => Out.on (ev cf c σ M2) σ fun z M3 => .nx (((σ.set i (some x)).set j (some y)).set k (some z)) M3
  | .six o i v, σ, M => Out.on (ev cf v σ M) σ fun z M1 => Out.on (ev cf o σ M1) σ fun x M2 => Out.on (ev cf i σ M2) σ fun y M3 => match x, y with
    | .ref n, y => match M3[n]? with
      | some (.lst xs) => (match y with
        | .int k => (match place xs.length k with
          | some j => .nx σ (M3.set n (.lst (xs.set j z)))
          | none => .bad)
        | _ => .bad)
      | some (.dic kvs) => if keyV y && decide (kvs.length < LIM) then .nx σ (M3.set n (.dic (dicPut kvs y z))) else .bad
      | _ => .bad
    | _, _ => .bad
  | .expr e, σ, M => Out.on (ev cf e σ M) σ fun _ M1 => .nx σ M1
  | .ret e, σ, M => Out.on (ev cf e σ M) σ fun v M1 => .ret v M1
  | .retN, _, M => .ret .non M
  | .ite c a b, σ, M => Out.on (ev cf c σ M) σ fun x M1 => Out.on (ofOpt (truth M1 x) M1) σ fun k M2 => if k then exs cf a σ M2 else exs cf b σ M2
  | .loop t src b, σ, M => Out.on (evS cf src σ M) σ fun p M1 => rounds (fun x σ1 M2 => match put t x σ1 with
      | some σ2 => exs cf b σ2 M2
      | none => .bad) p.1 p.2 p.1 σ M1
  | .whl c b, σ, M => whiles (fun σ1 M1 => (ev cf c σ1 M1).bind fun x M2 => ofOpt (truth M2 x) M2) (fun σ1 M1 => exs cf b σ1 M1) WHL σ M
  | .brk, σ, M => .brk σ M
  | .cnt, σ, M => .cnt σ M
  | .pass, σ, M => .nx σ M
  | .rais c, σ, M => .exc ⟨c, none⟩ σ M
  | .tri b hs, σ, M => match exs cf b σ M with
    | .exc x σ1 M1 => hand cf hs x σ1 M1
    | r => r
noncomputable def exs (cf : Cf) : Ss → St → Store → Out
  | .nil, σ, M => .nx σ M
  | .cons s ss, σ, M => (ex cf s σ M).seq fun σ1 M1 => exs cf ss σ1 M1
noncomputable def hand (cf : Cf) : Hs → Exc → St → Store → Out
  | .nil, x, σ, M => .exc x σ M
  | .cons c b hs, x, σ, M => if cf.sub x.cls c then (exs cf b σ M).calm else hand cf hs x σ M
end
/-! ### a program -/
structure Def where
  params : Nat
  slots : Nat
  body : Ss
def start (d : Def) (vs : List Val) : St := vs.map some ++ List.replicate (d.slots - vs.length) none
/-- what a call leaves -/
def back (M : Store) : Out → Res Val
  | .nx _ M' => .ok .non M'
  | .ret v M' => .ok v M'
  | .exc x _ M' => .exc x M'
  | _ => .bad
structure Prog where
  defs : List Def
  repr : Val → Store → Option (List Nat)
  eqx : Gx
  sub : Nat → Nat → Bool
noncomputable def call (P : Prog) : Nat → CallF
  | 0 => fun _ _ _ => .bad
  | n + 1 => fun g vs M => match P.defs[g]? with
    | some d => if vs.length = d.params then back M (exs ⟨call P n, P.repr, P.eqx, P.sub⟩ d.body (start d vs) M) else .bad
    | none => .bad
end Mi
end MiCoreS

section MiRelS
set_option Elab.async false
set_option linter.all false
set_option maxRecDepth 100000
/-! how a value of the small language lies in the abstract heap -/
namespace Mi
open PySem L2

structure Gs where
  K : PySem.W.Frag
  cls : Nat → Addr
def toS (s : List Nat) : Str := ⟨s.toArray⟩
@[simp] theorem toS_length (s : List Nat) : (toS s).length = s.length := by simp [toS, Str.length]
@[simp] theorem toS_list (s : List Nat) : (toS s).cps.toList = s := by simp [toS]
theorem toS_inj {a b : List Nat} (h : toS a = toS b) : a = b := by
  have := congrArg (fun x : Str => x.cps.toList) h
  simpa using this
theorem lim_eq : LIM = sizeLine := by rw [sizeLine_eq]; rfl
/-- short, and of plain signs -/
def okS (s : List Nat) : Prop := s.length ≤ LIM ∧ ∀ c ∈ s, c < 128
theorem lim_val : LIM = 16777216 := rfl

structure Ext (H H' : Hp) : Prop where
  tups : ∀ b xs, H b = some (.tup xs) → H' b = some (.tup xs)
  frzs : ∀ b o u, H b = some (.frz o u) → H' b = some (.frz o u)
theorem Ext.refl (H : Hp) : Ext H H := ⟨fun _ _ h => h, fun _ _ _ h => h⟩
theorem Ext.trans {H H1 H2 : Hp} (a : Ext H H1) (b : Ext H1 H2) : Ext H H2 := ⟨fun c xs h => b.tups c xs (a.tups c xs h), fun c o u h => b.frzs c o u (a.frzs c o u h)⟩
theorem Ext.new {H : Hp} {p : Addr} {o : HO} (h : H p = none) : Ext H (upd H p o) :=
  ⟨fun b xs e => by rw [upd_ne (ne_of_none e h)]; exact e, fun b ob u e => by rw [upd_ne (ne_of_none e h)]; exact e⟩
theorem Ext.mut {H : Hp} {p : Addr} {o : HO} (h : L2.Mut (H p)) : Ext H (upd H p o) :=
  ⟨fun b ys e => by rw [upd_ne (fun z => by subst z; rw [e] at h; exact h)]; exact e, fun b ob u e => by rw [upd_ne (fun z => by subst z; rw [e] at h; exact h)]; exact e⟩
theorem mut_lst {H : Hp} {p : Addr} {xs : List V} (h : H p = some (.lst xs)) : L2.Mut (H p) := by rw [h]; exact True.intro
theorem mut_dK {H : Hp} {p : Addr} {xs : List (Key × V)} (h : H p = some (.dK xs)) : L2.Mut (H p) := by rw [h]; exact True.intro
theorem Ext.rdT {H H' : Hp} {a : Addr} {xs : List V} (e : Ext H H') (h : Rd H a (.tup xs)) : Rd H' a (.tup xs) := by
  rcases h with h | ⟨o, h⟩
  · exact .inl (e.tups _ _ h)
  · exact .inr ⟨o, e.frzs _ _ _ h⟩
theorem Ext.sqT {K : PySem.W.Frag} {H H' : Hp} {a : Addr} {xs : List V} (e : Ext H H') (h : SqT K H a xs) : SqT K H' a xs := by
  rcases h with h | h
  · exact .inl (e.rdT h)
  · exact .inr h
/-- later: more references, all new ones to places that were free; tuples stay, places don't get free, what is not ours stays -/
structure Le (ι : List Addr) (H : Hp) (ι' : List Addr) (H' : Hp) : Prop where
  more : ∃ t, ι' = ι ++ t ∧ ∀ a ∈ t, H a = none
  ext : Ext H H'
  dom : ∀ a, H' a = none → H a = none
  keep : ∀ a u, H a = some u → a ∉ ι → H' a = some u
theorem Le.refl {ι : List Addr} {H : Hp} : Le ι H ι H := ⟨⟨[], by simp, fun _ h => by simp at h⟩, Ext.refl H, fun _ h => h, fun _ _ h _ => h⟩
theorem Le.trans {ι ι1 ι2 : List Addr} {H H1 H2 : Hp} (a : Le ι H ι1 H1) (b : Le ι1 H1 ι2 H2) : Le ι H ι2 H2 := by
  obtain ⟨t, rfl, ft⟩ := a.more
  obtain ⟨u, rfl, fu⟩ := b.more
  refine ⟨⟨t ++ u, by simp, fun c hc => ?_⟩, a.ext.trans b.ext, fun c h => a.dom c (b.dom c h), fun c v e n => b.keep c v (a.keep c v e n) fun hc => ?_⟩
  · rcases List.mem_append.mp hc with hc | hc
    · exact ft c hc
    · exact a.dom c (fu c hc)
  · rcases List.mem_append.mp hc with hc | hc
    · exact n hc
    · rw [ft c hc] at e; cases e
/-- a new object, not ours -/
theorem Le.new {ι : List Addr} {H : Hp} {p : Addr} {o : HO} (h : H p = none) : Le ι H ι (upd H p o) :=
  ⟨⟨[], by simp, fun _ h => by simp at h⟩, Ext.new h, fun a e => by
    by_cases q : a = p
    · rw [q]; exact h
    · rw [upd_ne q] at e; exact e, fun a u e _ => by rw [upd_ne (ne_of_none e h)]; exact e⟩
/-- an object of ours is changed -/
theorem Le.set {ι : List Addr} {H : Hp} {p : Addr} {o : HO} (h : L2.Mut (H p)) (hp : p ∈ ι) : Le ι H ι (upd H p o) :=
  ⟨⟨[], by simp, fun _ h => by simp at h⟩, Ext.mut h, fun a e => by
    by_cases q : a = p
    · rw [q, upd_same] at e; cases e
    · rw [upd_ne q] at e; exact e, fun a u e n => by rw [upd_ne (fun q : a = p => n (by rw [q]; exact hp))]; exact e⟩
theorem Le.at {ι ι' : List Addr} {H H' : Hp} (l : Le ι H ι' H') {n : Nat} {a : Addr} (h : ι[n]? = some a) : ι'[n]? = some a := by
  obtain ⟨t, rfl, _⟩ := l.more
  obtain ⟨hn, _⟩ := List.getElem?_eq_some_iff.mp h
  rw [List.getElem?_append_left hn]; exact h

/-- a list that nobody changes -/
def Fixed (K : PySem.W.Frag) (H : Hp) (a : Addr) (vs : List V) : Prop := (∃ o, H a = some (.frz o (.lst vs))) ∨
  ∃ (o : PySem.Obj) (its : Array Value) (n : Nat), K.lookup a = some o ∧ o.cls = .type "list" ∧ o.dict = none ∧ o.data = .seq its n ∧ its.size ≤ sizeLine ∧ Vals vs its.toList
theorem Fixed.sq {K : PySem.W.Frag} {H : Hp} {a : Addr} {vs : List V} (h : Fixed K H a vs) : SqL K H a vs := by
  rcases h with h | h
  · exact .inl (.inr h)
  · exact .inr h
theorem Ext.fixed {K : PySem.W.Frag} {H H' : Hp} {a : Addr} {vs : List V} (e : Ext H H') (h : Fixed K H a vs) : Fixed K H' a vs := by
  rcases h with ⟨o, h⟩ | h
  · exact .inl ⟨o, e.frzs _ _ _ h⟩
  · exact .inr h
mutual
inductive VR (K : PySem.W.Frag) (ι : List Addr) (H : Hp) : Val → V → Prop
  | non : VR K ι H .non .non
  | bl (b : Bool) : VR K ι H (.bl b) (.bl b)
  | int (i : Int) : VR K ι H (.int i) (.int i)
  | str (s : List Nat) (h : okS s) : VR K ι H (.str s) (.str (toS s))
  | tup {a : Addr} {xs : List Val} {vs : List V} : SqT K H a vs → VRs K ι H xs vs → VR K ι H (.tup xs) (.ref a)
  | frz {a : Addr} {xs : List Val} {vs : List V} : Fixed K H a vs → VRs K ι H xs vs → VR K ι H (.frz xs) (.ref a)
  | ref {n : Nat} {a : Addr} : ι[n]? = some a → VR K ι H (.ref n) (.ref a)
  | fn (x : Str) : VR K ι H (.fn x) (.ref (He.ga K x))
inductive VRs (K : PySem.W.Frag) (ι : List Addr) (H : Hp) : List Val → List V → Prop
  | nil : VRs K ι H [] []
  | cons {x : Val} {v : V} {xs : List Val} {vs : List V} : VR K ι H x v → VRs K ι H xs vs → VRs K ι H (x :: xs) (v :: vs)
end
mutual
theorem VR.mono {K : PySem.W.Frag} {ι ι' : List Addr} {H H' : Hp} (l : Le ι H ι' H') {x : Val} {v : V} : VR K ι H x v → VR K ι' H' x v
  | .non => .non
  | .bl b => .bl b
  | .int i => .int i
  | .str s h => .str s h
  | .tup h hs => .tup (l.ext.sqT h) (VRs.mono l hs)
  | .frz h hs => .frz (l.ext.fixed h) (VRs.mono l hs)
  | .ref h => .ref (l.at h)
  | .fn x => .fn x
theorem VRs.mono {K : PySem.W.Frag} {ι ι' : List Addr} {H H' : Hp} (l : Le ι H ι' H') {xs : List Val} {vs : List V} : VRs K ι H xs vs → VRs K ι' H' xs vs
  | .nil => .nil
  | .cons h hs => .cons (VR.mono l h) (VRs.mono l hs)
end
mutual
theorem VR.ext {K : PySem.W.Frag} {ι : List Addr} {H H' : Hp} (l : Ext H H') {x : Val} {v : V} : VR K ι H x v → VR K ι H' x v
  | .non => .non
  | .bl b => .bl b
  | .int i => .int i
  | .str s h => .str s h
  | .tup h hs => .tup (l.sqT h) (VRs.ext l hs)
  | .frz h hs => .frz (l.fixed h) (VRs.ext l hs)
  | .ref h => .ref h
  | .fn x => .fn x
theorem VRs.ext {K : PySem.W.Frag} {ι : List Addr} {H H' : Hp} (l : Ext H H') {xs : List Val} {vs : List V} : VRs K ι H xs vs → VRs K ι H' xs vs
  | .nil => .nil
  | .cons h hs => .cons (VR.ext l h) (VRs.ext l hs)
end
mutual
theorem VR.more {K : PySem.W.Frag} {ι t : List Addr} {H : Hp} {x : Val} {v : V} : VR K ι H x v → VR K (ι ++ t) H x v
  | .non => .non
  | .bl b => .bl b
  | .int i => .int i
  | .str s h => .str s h
  | .tup h hs => .tup h (VRs.more hs)
  | .frz h hs => .frz h (VRs.more hs)
  | .ref h => .ref (by
      obtain ⟨hn, _⟩ := List.getElem?_eq_some_iff.mp h
      rw [List.getElem?_append_left hn]; exact h)
  | .fn x => .fn x
theorem VRs.more {K : PySem.W.Frag} {ι t : List Addr} {H : Hp} {xs : List Val} {vs : List V} : VRs K ι H xs vs → VRs K (ι ++ t) H xs vs
  | .nil => .nil
  | .cons h hs => .cons (VR.more h) (VRs.more hs)
end
mutual
/-- the same where fewer references are known -/
theorem VR.cut {K : PySem.W.Frag} {ι : List Addr} {H : Hp} {n : Nat} : ∀ {x : Val} {v : V}, VR K ι H x v → below n x = true → VR K (ι.take n) H x v
  | _, _, .non, _ => .non
  | _, _, .bl b, _ => .bl b
  | _, _, .int i, _ => .int i
  | _, _, .str s h, _ => .str s h
  | _, _, .tup h hs, b => .tup h (VRs.cut hs (by simpa [below] using b))
  | _, _, .frz h hs, b => .frz h (VRs.cut hs (by simpa [below] using b))
  | .ref k, _, .ref h, b => .ref (by
      have hb : k < n := by simpa [below] using b
      rw [List.getElem?_take_of_lt hb]; exact h)
  | _, _, .fn x, _ => .fn x
theorem VRs.cut {K : PySem.W.Frag} {ι : List Addr} {H : Hp} {n : Nat} : ∀ {xs : List Val} {vs : List V}, VRs K ι H xs vs → belows n xs = true → VRs K (ι.take n) H xs vs
  | _, _, .nil, _ => .nil
  | x :: xs, _, .cons h hs, b => by
    have hb : below n x = true ∧ belows n xs = true := by simpa [belows] using b
    exact .cons (VR.cut h hb.1) (VRs.cut hs hb.2)
end
section
variable {K : PySem.W.Frag} {ι : List Addr} {H : Hp}
theorem VRs.length {xs : List Val} {vs : List V} (h : VRs K ι H xs vs) : xs.length = vs.length := by
  induction xs generalizing vs with
  | nil => cases h; rfl
  | cons x xs ih => cases h with
    | cons _ t => simp [ih t]
theorem VRs.get {xs : List Val} {vs : List V} (h : VRs K ι H xs vs) {i : Nat} {x : Val} (e : xs[i]? = some x) : ∃ v, vs[i]? = some v ∧ VR K ι H x v := by
  induction xs generalizing vs i with
  | nil => simp at e
  | cons y xs ih => cases h with
    | cons hh t =>
      cases i with
      | zero => simp at e; subst e; exact ⟨_, rfl, hh⟩
      | succ i => exact ih t (i := i) (by simpa using e)
theorem VRs.append {xs ys : List Val} {vs ws : List V} (h : VRs K ι H xs vs) (k : VRs K ι H ys ws) : VRs K ι H (xs ++ ys) (vs ++ ws) := by
  induction xs generalizing vs with
  | nil => cases h; exact k
  | cons y xs ih => cases h with
    | cons hh t => exact .cons hh (ih t)
theorem VRs.take {xs : List Val} {vs : List V} (h : VRs K ι H xs vs) (n : Nat) : VRs K ι H (xs.take n) (vs.take n) := by
  induction xs generalizing vs n with
  | nil => cases h; simp; exact .nil
  | cons y xs ih => cases h with
    | cons hh t =>
      cases n with
      | zero => exact .nil
      | succ n => exact .cons hh (ih t n)
theorem VRs.drop {xs : List Val} {vs : List V} (h : VRs K ι H xs vs) (n : Nat) : VRs K ι H (xs.drop n) (vs.drop n) := by
  induction xs generalizing vs n with
  | nil => cases h; simp; exact .nil
  | cons y xs ih => cases h with
    | cons hh t =>
      cases n with
      | zero => exact .cons hh t
      | succ n => exact ih t n
theorem VRs.set {xs : List Val} {vs : List V} (h : VRs K ι H xs vs) {x : Val} {v : V} (k : VR K ι H x v) (n : Nat) : VRs K ι H (xs.set n x) (vs.set n v) := by
  induction xs generalizing vs n with
  | nil => cases h; exact .nil
  | cons y xs ih => cases h with
    | cons hh t =>
      cases n with
      | zero => exact .cons k t
      | succ n => exact .cons hh (ih t n)
theorem VRs.cutv {xs : List Val} {vs : List V} (h : VRs K ι H xs vs) (lo hi : Option Int) : VRs K ι H (Mi.cut xs lo hi) (L2.cutV vs lo hi) := by
  have e : ∀ d o, bound xs.length d o = HT.sIx vs.length d o := fun d o => by
    rw [h.length]
    cases o <;> rfl
  unfold Mi.cut cutV
  rw [e, e, h.length]
  exact (h.drop _).take _
end

/-- an object of the store at its address -/
def mutO : Obj → Bool
  | .lst _ => true
  | .dic _ => true
  | _ => false
def keyOf : Val → Option Key
  | .int i => some (.inl i)
  | .str s => some (.inr (toS s))
  | _ => none
/-- an exception object that was not raised yet, its arguments at t -/
def ExA (cls : Value) (t a : Addr) : HO := .ext fun h => ∃ (oe : PySem.Obj) (vs : Array Value), h.get? a = some oe ∧ Zc cls none oe ∧ oe.data = .fields vs ∧ vs[0]? = some (.ref t) ∧ vs[1]? = some .none ∧ vs[2]? = some .none ∧ 4 < vs.size
theorem exA_ok {P : Program} {w : World} {H : Hp} {h : Heap} {a t : Addr} {cls : Value} {oe : PySem.Obj} {vs : Array Value} (e : h.get? a = some oe) (z : Zc cls none oe) (d : oe.data = .fields vs) (h0 : vs[0]? = some (.ref t)) (h1 : vs[1]? = some .none) (h2 : vs[2]? = some .none) (h5 : 4 < vs.size) : ObjOk P w H h a (ExA cls t a) :=
  ⟨⟨oe, vs, e, z, d, h0, h1, h2, h5⟩, ⟨oe, e⟩, fun _ _ ⟨o, v, q, r⟩ k => ⟨o, v, k o q, r⟩⟩
def KVs (K : PySem.W.Frag) (ι : List Addr) (H : Hp) : List (Val × Val) → List (Key × V) → Prop := Paired fun p q => (keyOf p.1 = some q.1 ∧ VR K ι H p.1 (kV q.1)) ∧ VR K ι H p.2 q.2
def OR (G : Gs) (ι : List Addr) (H : Hp) : Obj → Addr → Prop
  | .lst xs, a => ∃ vs, H a = some (.lst vs) ∧ VRs G.K ι H xs vs
  | .dic kvs, a => ∃ ws, H a = some (.dK ws) ∧ KVs G.K ι H kvs ws
  | .exv c, a => ∃ t, H a = some (ExA (.ref (G.cls c)) t a) ∧ H t = some (.tup [])
structure HR (G : Gs) (ι : List Addr) (M : Store) (H : Hp) : Prop where
  len : ι.length = M.length
  obj : ∀ (n : Nat) (o : Obj) (a : Addr), M[n]? = some o → ι[n]? = some a → OR G ι H o a
  inj : ι.Nodup
structure SR (G : Gs) (ι : List Addr) (H : Hp) (τ : St) (σ : L2.St) : Prop where
  len : τ.length = σ.length
  at_ : ∀ (i : Nat) (x : Val), τ[i]? = some (some x) → ∃ v, σ[i]? = some (some v) ∧ VR G.K ι H x v
theorem SR.mono {G : Gs} {ι ι' : List Addr} {H H' : Hp} (l : Le ι H ι' H') {τ : St} {σ : L2.St} (h : SR G ι H τ σ) : SR G ι' H' τ σ :=
  ⟨h.len, fun i x e => let ⟨v, e', r⟩ := h.at_ i x e; ⟨v, e', r.mono l⟩⟩
theorem SR.set {G : Gs} {ι : List Addr} {H : Hp} {τ : St} {σ : L2.St} (h : SR G ι H τ σ) {x : Val} {v : V} (r : VR G.K ι H x v) (i : Nat) : SR G ι H (τ.set i (some x)) (σ.set i (some v)) := by
  refine ⟨by simp [h.len], fun j y e => ?_⟩
  by_cases hj : i = j
  · subst hj
    by_cases hi : i < τ.length
    · rw [List.getElem?_set_self hi] at e
      cases e
      exact ⟨v, by rw [List.getElem?_set_self (by rw [← h.len]; exact hi)], r⟩
    · rw [List.getElem?_eq_none (by simpa using hi)] at e; cases e
  · rw [List.getElem?_set_ne hj] at e
    obtain ⟨w, e', r'⟩ := h.at_ j y e
    exact ⟨w, by rw [List.getElem?_set_ne hj]; exact e', r'⟩
theorem SR.gone {G : Gs} {ι : List Addr} {H : Hp} {τ : St} {σ : L2.St} (h : SR G ι H τ σ) (i : Nat) : SR G ι H (τ.set i none) (σ.set i none) := by
  refine ⟨by simp [h.len], fun j y e => ?_⟩
  by_cases hj : i = j
  · subst hj
    by_cases hi : i < τ.length
    · rw [List.getElem?_set_self hi] at e; cases e
    · rw [List.getElem?_eq_none (by simpa using hi)] at e; cases e
  · rw [List.getElem?_set_ne hj] at e
    obtain ⟨w, e', r'⟩ := h.at_ j y e
    exact ⟨w, by rw [List.getElem?_set_ne hj]; exact e', r'⟩
theorem SR.wiped {G : Gs} {ι : List Addr} {H : Hp} {τ : St} {σ : L2.St} (h : SR G ι H τ σ) : ∀ vs : List Nat, SR G ι H (Mi.wiped τ vs) (L2.wipe σ vs)
  | [] => h
  | v :: vs => (SR.wiped h vs).gone v

theorem KVs.mono {K : PySem.W.Frag} {ι ι' : List Addr} {H H' : Hp} (l : Le ι H ι' H') {ks : List (Val × Val)} {ws : List (Key × V)} (h : KVs K ι H ks ws) : KVs K ι' H' ks ws :=
  L2.Paired.mapP h fun _ _ q => ⟨⟨q.1.1, q.1.2.mono l⟩, q.2.mono l⟩
/-- what stays of an object where its own place stays -/
theorem OR.stay {G : Gs} {ι ι' : List Addr} {H H' : Hp} (l : Le ι H ι' H') {o : Obj} {a : Addr} (h : OR G ι H o a) (s : ∀ u, H a = some u → H' a = some u) : OR G ι' H' o a := by
  cases o with
  | lst xs => obtain ⟨vs, e, r⟩ := h; exact ⟨vs, s _ e, r.mono l⟩
  | dic ks => obtain ⟨ws, e, r⟩ := h; exact ⟨ws, s _ e, r.mono l⟩
  | exv c => obtain ⟨t, e, r⟩ := h; exact ⟨t, s _ e, l.ext.tups _ _ r⟩
theorem OR.has {G : Gs} {ι : List Addr} {H : Hp} {o : Obj} {a : Addr} (h : OR G ι H o a) : ∃ u, H a = some u := by
  cases o with
  | lst xs => obtain ⟨vs, e, r⟩ := h; exact ⟨_, e⟩
  | dic ks => obtain ⟨ws, e, r⟩ := h; exact ⟨_, e⟩
  | exv c => obtain ⟨t, e, r⟩ := h; exact ⟨_, e⟩
/-- what is ours isn't free -/
theorem HR.has {G : Gs} {ι : List Addr} {M : Store} {H : Hp} (h : HR G ι M H) {a : Addr} (ha : a ∈ ι) : ∃ u, H a = some u := by
  obtain ⟨n, hn, e⟩ := List.mem_iff_getElem.mp ha
  have e1 : ι[n]? = some a := by rw [List.getElem?_eq_getElem hn, e]
  have hm : n < M.length := by rw [← h.len]; exact hn
  exact (h.obj n M[n] a (List.getElem?_eq_getElem hm) e1).has
theorem HR.ne {G : Gs} {ι : List Addr} {M : Store} {H : Hp} (h : HR G ι M H) {p : Addr} (hp : H p = none) : p ∉ ι := fun z => by
  obtain ⟨u, q⟩ := h.has z
  rw [hp] at q; cases q
/-- a new object, not ours -/
theorem HR.new {G : Gs} {ι : List Addr} {M : Store} {H : Hp} (h : HR G ι M H) {p : Addr} {u : HO} (hp : H p = none) : HR G ι M (upd H p u) :=
  ⟨h.len, fun n o a e1 e2 => (h.obj n o a e1 e2).stay (Le.new hp) (fun v q => by rw [upd_ne (ne_of_none q hp)]; exact q), h.inj⟩
/-- another one's object is changed -/
theorem HR.other {G : Gs} {ι : List Addr} {M : Store} {H : Hp} (h : HR G ι M H) {p : Addr} {u : HO} (hp : L2.Mut (H p)) (np : p ∉ ι) : HR G ι M (upd H p u) := by
  have mono : ∀ {o : Obj} {a : Addr}, a ≠ p → OR G ι H o a → OR G ι (upd H p u) o a := fun {o a} na q => by
    have e : Ext H (upd H p u) := Ext.mut hp
    have l : Le ι H ι (upd H p u) ∨ True := .inr trivial
    have vm : ∀ {x : Val} {v : V}, VR G.K ι H x v → VR G.K ι (upd H p u) x v := fun {x v} r => VR.ext e r
    cases o with
    | lst xs => obtain ⟨vs, e1, r⟩ := q; exact ⟨vs, by rw [upd_ne na]; exact e1, VRs.ext e r⟩
    | dic ks => obtain ⟨ws, e1, r⟩ := q; exact ⟨ws, by rw [upd_ne na]; exact e1, L2.Paired.mapP r fun _ _ q => ⟨⟨q.1.1, vm q.1.2⟩, vm q.2⟩⟩
    | exv c => obtain ⟨t, e1, r⟩ := q; exact ⟨t, by rw [upd_ne na]; exact e1, e.tups _ _ r⟩
  exact ⟨h.len, fun n o a e1 e2 => mono (fun z => np (z ▸ List.mem_of_getElem? e2)) (h.obj n o a e1 e2), h.inj⟩
/-- a new object becomes ours -/
theorem HR.mine {G : Gs} {ι : List Addr} {M : Store} {H : Hp} (h : HR G ι M H) {p : Addr} {o : Obj} (np : p ∉ ι) (ho : OR G (ι ++ [p]) H o p) : HR G (ι ++ [p]) (M ++ [o]) H := by
  have key : ∀ (n : Nat) (u : Obj), (M ++ [o])[n]? = some u → (n < M.length ∧ M[n]? = some u ∧ (ι ++ [p])[n]? = ι[n]?) ∨ (n = M.length ∧ u = o ∧ (ι ++ [p])[n]? = some p) := fun n u e => by
    by_cases hn : n < M.length
    · rw [List.getElem?_append_left hn] at e
      exact .inl ⟨hn, e, List.getElem?_append_left (by rw [h.len]; exact hn)⟩
    · obtain ⟨hlt, _⟩ := List.getElem?_eq_some_iff.mp e
      have hn2 : n = M.length := by simp at hlt; omega
      subst hn2
      rw [List.getElem?_append_right (Nat.le_refl _)] at e
      refine .inr ⟨rfl, by simpa using e.symm, ?_⟩
      rw [← h.len]; simp
  refine ⟨by simp [h.len], fun n u a e1 e2 => ?_, ?_⟩
  · rcases key n u e1 with ⟨_, e, k⟩ | ⟨_, e, k⟩
    · rw [k] at e2
      have q := h.obj n u a e e2
      cases u with
      | lst xs => obtain ⟨vs, e3, r⟩ := q; exact ⟨vs, e3, VRs.more r⟩
      | dic ks => obtain ⟨ws, e3, r⟩ := q; exact ⟨ws, e3, L2.Paired.mapP r fun _ _ q => ⟨⟨q.1.1, VR.more q.1.2⟩, VR.more q.2⟩⟩
      | exv c => exact q
    · rw [k] at e2; cases e2; subst e; exact ho
  · rw [List.nodup_append]
    refine ⟨h.inj, by simp, fun a ha b hb z => ?_⟩
    simp at hb
    exact np (hb ▸ z ▸ ha)
/-- ours is changed -/
theorem HR.set {G : Gs} {ι : List Addr} {M : Store} {H : Hp} (h : HR G ι M H) {n : Nat} {xs ys : List Val} {vs ws : List V} {a : Addr} (e : M[n]? = some (.lst xs)) (ea : ι[n]? = some a) (ha : H a = some (.lst vs)) (r : VRs G.K ι H ys ws) :
    HR G ι (M.set n (.lst ys)) (upd H a (.lst ws)) ∧ Le ι H ι (upd H a (.lst ws)) := by
  have l : Le ι H ι (upd H a (.lst ws)) := Le.set (mut_lst ha) (List.mem_of_getElem? ea)
  have hn : n < M.length := (List.getElem?_eq_some_iff.mp e).1
  refine ⟨⟨by simp [h.len], fun m u b e1 e2 => ?_, h.inj⟩, l⟩
  by_cases hm : n = m
  · subst hm
    rw [List.getElem?_set_self hn] at e1
    cases e1
    rw [ea] at e2; cases e2
    exact ⟨ws, upd_same, r.mono l⟩
  · rw [List.getElem?_set_ne hm] at e1
    refine (h.obj m u b e1 e2).stay l fun v q => ?_
    rw [upd_ne (fun z => hm (by
      obtain ⟨h1, e3⟩ := List.getElem?_eq_some_iff.mp ea
      obtain ⟨h2, e4⟩ := List.getElem?_eq_some_iff.mp e2
      exact (List.getElem_inj h.inj).mp (e3.trans (z.symm.trans e4.symm))))]
    exact q
end Mi
end MiRelS

section MiExpS
set_option Elab.async false
set_option linter.all false
set_option maxRecDepth 100000
/-! what the runs of the small language say of the walked tree: expressions -/
namespace Mi
open PySem L2

/-- an exception of the small language as it lies -/
def XR (G : Gs) (ι : List Addr) (H : Hp) (x : Exc) (cls : Value) (d : Option Addr) : Prop := cls = .ref (G.cls x.cls) ∧
  match x.arg with
  | none => d = none
  | some v => ∃ dx f w, d = some dx ∧ H dx = some (.xd [(f, w)]) ∧ VR G.K ι H v w
def Post {α β : Type} (G : Gs) (W : WX) (σ : L2.St) (ι : List Addr) (H : Hp) (R : List Addr → Hp → α → β → Prop) (Q : β → Hp → Prop) : Res α → Prop
  | .ok a M => ∀ ι' H' b, Le ι H ι' H' → HR G ι' M H' → R ι' H' a b → Q b H'
  | .exc x M => ∀ ι' H' cls d, Le ι H ι' H' → HR G ι' M H' → XR G ι' H' x cls d → W cls d σ H'
  | .bad => False
section
variable {G : Gs} {W : WX} {σ : L2.St} {ι : List Addr} {H : Hp} {M : Store}
theorem Post.mono {α β : Type} {R : List Addr → Hp → α → β → Prop} {Q : β → Hp → Prop} {r : Res α} {ι1 : List Addr} {H1 : Hp} (h : Post G W σ ι H R Q r) (l : Le ι H ι1 H1) : Post G W σ ι1 H1 R Q r := by
  cases r with
  | ok a M => exact fun ι' H' b l' => h ι' H' b (l.trans l')
  | exc x M => exact fun ι' H' c d l' => h ι' H' c d (l.trans l')
  | bad => exact h
theorem Post.bind {α β γ δ : Type} {R : List Addr → Hp → α → β → Prop} {Q : β → Hp → Prop} {R' : List Addr → Hp → γ → δ → Prop} {Q' : δ → Hp → Prop} {r : Res α} {f : α → Store → Res γ} (h : Post G W σ ι H R' Q' (r.bind f))
    (k : ∀ a M1 ι1 H1 b, r = .ok a M1 → Le ι H ι1 H1 → HR G ι1 M1 H1 → R ι1 H1 a b → Post G W σ ι1 H1 R' Q' (f a M1) → Q b H1) : Post G W σ ι H R Q r := by
  cases r with
  | ok a M => exact fun ι' H' b l hr rr => k a M ι' H' b rfl l hr rr (Post.mono h l)
  | exc x M => exact h
  | bad => exact h
theorem Post.imp {α β : Type} {R : List Addr → Hp → α → β → Prop} {Q Q' : β → Hp → Prop} {r : Res α} (h : Post G W σ ι H R Q r) (k : ∀ b H', Q b H' → Q' b H') : Post G W σ ι H R Q' r := by
  cases r with
  | ok a M => exact fun ι' H' b l hr rr => k _ _ (h ι' H' b l hr rr)
  | exc x M => exact h
  | bad => exact h
/-- the end of a run, here and now -/
theorem Post.here {α β : Type} {R : List Addr → Hp → α → β → Prop} {Q : β → Hp → Prop} {a : α} {b : β} (h : Post G W σ ι H R Q (.ok a M)) (hr : HR G ι M H) (r : R ι H a b) : Q b H := h ι H b Le.refl hr r
theorem Post.opt {α β : Type} {R : List Addr → Hp → α → β → Prop} {Q : β → Hp → Prop} {o : Option α} (h : Post G W σ ι H R Q (ofOpt o M)) : ∃ a, o = some a ∧ Post G W σ ι H R Q (.ok a M) := by
  cases o with
  | none => exact h.elim
  | some a => exact ⟨a, rfl, h⟩
end
abbrev RV (G : Gs) : List Addr → Hp → Val → V → Prop := fun ι H x v => VR G.K ι H x v
abbrev RVs (G : Gs) : List Addr → Hp → List Val → List V → Prop := fun ι H x v => VRs G.K ι H x v
abbrev RI {α : Type} : List Addr → Hp → α → α → Prop := fun _ _ a b => b = a

/-! ### readings -/
def tE (G : Gs) (W : WX) (cf : Cf) (m : E) : TE := fun σ H Q => ∃ ι τ M, SR G ι H τ σ ∧ HR G ι M H ∧ Post G W σ ι H (RV G) Q (ev cf m τ M)
def tT (G : Gs) (W : WX) (cf : Cf) (m : E) : TT := fun σ H Q => ∃ ι τ M, SR G ι H τ σ ∧ HR G ι M H ∧ Post G W σ ι H RI Q ((ev cf m τ M).bind fun x M1 => ofOpt (truth M1 x) M1)
def tEs (G : Gs) (W : WX) (cf : Cf) (ms : Es) : TA := fun σ H Q => ∃ ι τ M, SR G ι H τ σ ∧ HR G ι M H ∧ Post G W σ ι H (RVs G) Q (evs cf ms τ M)
def tEo (G : Gs) (W : WX) (cf : Cf) (m : Eo) : TO := fun σ H Q => ∃ ι τ M, SR G ι H τ σ ∧ HR G ι M H ∧ Post G W σ ι H RI Q (evo cf m τ M)
/-- a list that was just made: nobody else knows it -/
def Fresh (G : Gs) (H0 : Hp) (ι : List Addr) (H : Hp) (xs : List Val) (v : V) : Prop := ∃ D vs, v = .ref D ∧ H D = some (.lst vs) ∧ VRs G.K ι H xs vs ∧ D ∉ ι ∧ H0 D = none
def PostL (G : Gs) (W : WX) (σ : L2.St) (ι : List Addr) (H : Hp) (Q : VK) : Res (List Val) → Prop
  | .ok xs M => ∀ ι' H' v, Le ι H ι' H' → HR G ι' M H' → Fresh G H ι' H' xs v → Q v H'
  | .exc x M => ∀ ι' H' cls d, Le ι H ι' H' → HR G ι' M H' → XR G ι' H' x cls d → W cls d σ H'
  | .bad => False
def tL (G : Gs) (W : WX) (cf : Cf) (l : L) : TE := fun σ H Q => ∃ ι τ M, SR G ι H τ σ ∧ HR G ι M H ∧ PostL G W σ ι H Q (evL cf l τ M)
section
variable {G : Gs} {W : WX} {σ : L2.St} {ι : List Addr} {H : Hp} {M : Store}
theorem PostL.mono {Q : VK} {r : Res (List Val)} {ι1 : List Addr} {H1 : Hp} (h : PostL G W σ ι H Q r) (l : Le ι H ι1 H1) : PostL G W σ ι1 H1 Q r := by
  cases r with
  | ok a M => exact fun ι' H' b l' hr ⟨D, vs, e, hD, r, n, z⟩ => h ι' H' b (l.trans l') hr ⟨D, vs, e, hD, r, n, l.dom D z⟩
  | exc x M => exact fun ι' H' c d l' => h ι' H' c d (l.trans l')
  | bad => exact h
/-- a fresh list is wanted for the sake of f -/
theorem PostL.bind {γ δ : Type} {Q : VK} {R' : List Addr → Hp → γ → δ → Prop} {Q' : δ → Hp → Prop} {r : Res (List Val)} {f : List Val → Store → Res γ} (h : Post G W σ ι H R' Q' (r.bind f))
    (k : ∀ xs M1 ι1 H1 v, r = .ok xs M1 → Le ι H ι1 H1 → HR G ι1 M1 H1 → Fresh G H ι1 H1 xs v → Post G W σ ι1 H1 R' Q' (f xs M1) → Q v H1) : PostL G W σ ι H Q r := by
  cases r with
  | ok a M => exact fun ι' H' b l hr rr => k a M ι' H' b rfl l hr rr (Post.mono h l)
  | exc x M => exact h
  | bad => exact h
/-- a fresh list is what comes -/
theorem Post.bindL {α β : Type} {R : List Addr → Hp → α → β → Prop} {Q : β → Hp → Prop} {Q' : VK} {r : Res α} {f : α → Store → Res (List Val)} (h : PostL G W σ ι H Q' (r.bind f))
    (k : ∀ a M1 ι1 H1 b, r = .ok a M1 → Le ι H ι1 H1 → HR G ι1 M1 H1 → R ι1 H1 a b → PostL G W σ ι1 H1 Q' (f a M1) → Q b H1) : Post G W σ ι H R Q r := by
  cases r with
  | ok a M => exact fun ι' H' b l hr rr => k a M ι' H' b rfl l hr rr (PostL.mono h l)
  | exc x M => exact h
  | bad => exact h
/-- the list that was made last -/
theorem PostL.make {Q : VK} {xs : List Val} {vs : List V} (h : PostL G W σ ι H Q (.ok xs M)) (hr : HR G ι M H) (r : VRs G.K ι H xs vs) {D : Addr} (hD : H D = none) : Q (.ref D) (upd H D (.lst vs)) := by
  have l : Le ι H ι (upd H D (.lst vs)) := Le.new hD
  exact h ι _ _ l (hr.new hD) ⟨D, vs, rfl, upd_same, r.mono l, hr.ne hD, hD⟩
end
theorem _root_.L2.PE.imp {X : Cx} {e : Expr} {t t' : TE} (h : PE X e t) (i : ∀ σ H Q, t' σ H Q → t σ H Q) : PE X e t' := ⟨fun ps s σ H Q J q => h.run ps s σ H Q J (i σ H Q q)⟩
theorem _root_.L2.PT.imp {X : Cx} {e : Expr} {t t' : TT} (h : PT X e t) (i : ∀ σ H Q, t' σ H Q → t σ H Q) : PT X e t' := ⟨fun ps s σ H Q J q => h.run ps s σ H Q J (i σ H Q q)⟩
theorem _root_.L2.PA.imp {X : Cx} {e : List Expr} {t t' : TA} (h : PA X e t) (i : ∀ σ H Q, t' σ H Q → t σ H Q) : PA X e t' := ⟨fun po ps s σ H Q J q => h.run po ps s σ H Q J (i σ H Q q)⟩
theorem _root_.L2.PSs.imp {X : Cx} {e : List Stmt} {t t' : TS} (h : PSs X e t) (i : ∀ D σ H, t' D σ H → t D σ H) : PSs X e t' := ⟨fun ps s σ H D J q => h.run ps s σ H D J (i D σ H q)⟩
theorem _root_.L2.PS.imp {X : Cx} {e : Stmt} {t t' : TS} (h : PS X e t) (i : ∀ D σ H, t' D σ H → t D σ H) : PS X e t' := ⟨fun ps s σ H D J q => h.run ps s σ H D J (i D σ H q)⟩

theorem HR.sq_at {G : Gs} {ι : List Addr} {M : Store} {H : Hp} (hr : HR G ι M H) {n : Nat} {a : Addr} {xs : List Val} (e : M[n]? = some (.lst xs)) (ea : ι[n]? = some a) : ∃ vs, SqL G.K H a vs ∧ VRs G.K ι H xs vs := by
  obtain ⟨vs, h1, h2⟩ := hr.obj n _ a e ea
  exact ⟨vs, SqL.of h1, h2⟩
theorem HR.list_at {G : Gs} {ι : List Addr} {M : Store} {H : Hp} (hr : HR G ι M H) {n : Nat} {a : Addr} {xs : List Val} (e : M[n]? = some (.lst xs)) (ea : ι[n]? = some a) : ∃ vs, H a = some (.lst vs) ∧ VRs G.K ι H xs vs := hr.obj n _ a e ea
/-! ### operations on values -/
section
variable {X : Cx} {G : Gs} {W : WX} {cf : Cf}
def opr : Op2 → Operator
  | .add => .Add | .sub => .Sub | .mul => .Mult | .fdiv => .FloorDiv | .mod => .Mod | .pow => .Pow
theorem toS_append (a b : List Nat) : toS a ++ toS b = toS (a ++ b) := by
  show Str.mk (a.toArray ++ b.toArray) = Str.mk (a ++ b).toArray
  simp
theorem okS_append {a b : List Nat} (ha : okS a) (hb : okS b) (h : a.length + b.length ≤ LIM) : okS (a ++ b) :=
  ⟨by rw [List.length_append]; exact h, fun c hc => (List.mem_append.mp hc).elim (ha.2 c) (hb.2 c)⟩
theorem small_bounds {i : Int} (h : small i = true) : -(2 ^ 64) < i ∧ i < 2 ^ 64 := by
  have h' : i.natAbs < 2 ^ 64 := by simpa [small] using h
  omega
theorem mid_log {i : Int} (h : mid i = true) : i.natAbs.log2 < 2000 := by
  have h' : i.natAbs < 2 ^ 2000 := by simpa [mid] using h
  exact PySem.Flt.log2_lt_of (by decide) h'
/-- a new tuple -/
theorem vr_tup_new {ι : List Addr} {H : Hp} {xs : List Val} {vs : List V} {p : Addr} (hp : H p = none) (r : VRs G.K ι H xs vs) : VR G.K ι (upd H p (.tup vs)) (.tup xs) (.ref p) :=
  .tup (SqT.of upd_same) (r.mono (Le.new hp))
theorem flat_rep (x : List Nat) : ∀ n : Nat, ((List.replicate n x.toArray).foldl (· ++ ·) #[] : Array Nat) = ((List.replicate n x).flatten).toArray := by
  have k : ∀ (n : Nat) (acc : List Nat), ((List.replicate n x.toArray).foldl (· ++ ·) acc.toArray : Array Nat) = (acc ++ (List.replicate n x).flatten).toArray := by
    intro n
    induction n with
    | zero => intro acc; simp
    | succ n ih =>
      intro acc
      rw [List.replicate_succ, List.foldl_cons, List.replicate_succ, List.flatten_cons]
      have e : (acc.toArray ++ x.toArray : Array Nat) = (acc ++ x).toArray := by simp
      rw [e, ih, List.append_assoc]
  intro n
  have := k n []
  simpa using this
theorem op_mulS : OpR X (binaryOp .Mult) (fun x y H Q => ∃ (z : List Nat) (j : Int), x = .str (toS z) ∧ y = .int j ∧ 1 ≤ j ∧ j ≤ 1000000 ∧ z.length * j.toNat ≤ sizeLine ∧ Q (.str (toS (List.replicate j.toNat z).flatten)) H) := by
  intro pins s σ H x y v u Q I rx ry h
  obtain ⟨z, j, rfl, rfl, h1, h2, h3, q⟩ := h
  obtain ⟨t, rfl⟩ := rx
  obtain ⟨t2, rfl⟩ := ry
  refine P.mul_str (by
    have a : ¬ j < -(2 ^ 63 : Int) := by omega
    have b : ¬ j ≥ 2 ^ 63 := by omega
    rw [decide_eq_false a, decide_eq_false b]; rfl) (fun _ _ => ?_) (fun _ _ => ?_) ?_
  · rw [toS_length]
    have hz : (z.length : Int) ≤ 16777216 := by
      have e : z.length * 1 ≤ z.length * j.toNat := Nat.mul_le_mul_left _ (by omega)
      rw [sizeLine_eq] at h3
      omega
    have hd : (16777216 : Int) ≤ (2 ^ 63 - 1) / j := by
      refine (Int.le_ediv_iff_mul_le (by omega)).mpr ?_
      have : (16777216 : Int) * j ≤ 16777216 * 1000000 := Int.mul_le_mul_of_nonneg_left h2 (by omega)
      omega
    omega
  · rw [toS_length]
    unfold Builtin.Str.tooLong
    exact decide_eq_false (by omega)
  · rw [if_neg (by omega)]
    split
    · rename_i c
      have e : toS (List.replicate j.toNat z).flatten = toS z := by
        rw [toS_length] at c
        by_cases c1 : j = 1
        · subst c1; simp
        · have c2 : z = [] := by
            have : z.length = 0 := by simpa [c1] using c
            exact List.length_eq_zero_iff.mp this
          subst c2; simp
      rw [e] at q
      exact ⟨.str (toS z), H, I, ⟨_, rfl⟩, q⟩
    · have e : (⟨(List.replicate j.toNat (toS z).cps).foldl (· ++ ·) #[]⟩ : Str) = toS (List.replicate j.toNat z).flatten := congrArg Str.mk (flat_rep z j.toNat)
      rw [e]
      refine ⟨?_, .str _, H, I.tok _, ⟨_, rfl⟩, q⟩
      rw [toS_length, List.length_flatten]
      simp only [List.map_replicate, List.sum_replicate_nat]
      rw [Nat.mul_comm]
      exact h3
/-- a new list becomes ours -/
theorem lay_post0 {σ : L2.St} {ι : List Addr} {H : Hp} {M : Store} {Q : VK} {xs : List Val} {vs : List V} (q : Post G W σ ι H (RV G) Q (.ok (.ref M.length) (M ++ [.lst xs]))) (hr : HR G ι M H) (r : VRs G.K ι H xs vs) {p : Addr} (hp : H p = none) : Q (.ref p) (upd H p (.lst vs)) := by
  have np : p ∉ ι := hr.ne hp
  have l : Le ι H (ι ++ [p]) (upd H p (.lst vs)) := by
    obtain ⟨l1, l2, l3, l4⟩ := (Le.new hp : Le ι H ι (upd H p (.lst vs)))
    exact ⟨⟨[p], rfl, fun a ha => by simp at ha; rw [ha]; exact hp⟩, l2, l3, l4⟩
  refine q (ι ++ [p]) _ (.ref p) l ((hr.new hp).mine np ⟨vs, upd_same, (r.mono (Le.new hp)).more⟩) (.ref ?_)
  rw [← hr.len]; simp
def rOp2 (G : Gs) (W : WX) (o : Op2) : R2 := fun x y H Q => ∃ σ ι M a b, HR G ι M H ∧ VR G.K ι H a x ∧ VR G.K ι H b y ∧ Post G W σ ι H (RV G) Q (op2 o a b M)
theorem op2_run (gk : G.K = X.K) (o : Op2) : OpR X (binaryOp (opr o)) (rOp2 G W o) := by
  obtain ⟨K, cl⟩ := G
  obtain rfl : K = X.K := gk
  rintro ps s σ' H x y v u Q I rx ry ⟨σ, ι, M, a, b, hr, ha, hb, h⟩
  unfold op2 at h
  split at h
  · cases ha; cases hb
    exact op_add ps s σ' H _ _ v u Q I rx ry ⟨_, _, rfl, rfl, h.here hr (.int _)⟩
  · cases ha; cases hb
    exact op_sub ps s σ' H _ _ v u Q I rx ry ⟨_, _, rfl, rfl, h.here hr (.int _)⟩
  · cases ha; cases hb
    split at h
    · rename_i i j c
      unfold mulOk at c
      by_cases c1 : small i = true
      · exact op_mul ps s σ' H _ _ v u Q I rx ry ⟨_, _, rfl, rfl, .inl (small_bounds c1), h.here hr (.int _)⟩
      · by_cases c2 : small j = true
        · exact op_mul ps s σ' H _ _ v u Q I rx ry ⟨_, _, rfl, rfl, .inr (small_bounds c2), h.here hr (.int _)⟩
        · have c3 : mid i = true ∧ mid j = true := by simpa [c1, c2] using c
          refine op_mulW ps s σ' H _ _ v u Q I rx ry ⟨_, _, rfl, rfl, ?_, h.here hr (.int _)⟩
          have := mid_log c3.1
          have := mid_log c3.2
          unfold CMulW
          omega
    · exact h.elim
  · cases ha; cases hb
    split at h
    · rename_i i j c
      have c3 : 0 < j ∧ mid j = true := by simpa using c
      exact op_fdivW ps s σ' H _ _ v u Q I rx ry ⟨_, _, rfl, rfl, ⟨c3.1, by have := mid_log c3.2; omega⟩, h.here hr (.int _)⟩
    · exact h.elim
  · cases ha; cases hb
    split at h
    · rename_i i j c
      exact op_mod ps s σ' H _ _ v u Q I rx ry ⟨_, _, rfl, rfl, by simpa using c, h.here hr (.int _)⟩
    · exact h.elim
  · cases ha; cases hb
    split at h
    · rename_i i j c
      have c3 : (0 ≤ j ∧ j ≤ 1000000) ∧ small i = true := by simpa using c
      have c4 : i.natAbs < 2 ^ 64 := by simpa [small] using c3.2
      exact op_pow ps s σ' H _ _ v u Q I rx ry ⟨_, _, rfl, rfl, ⟨c3.1.1, c3.1.2, c4⟩, h.here hr (.int _)⟩
    · exact h.elim
  · cases ha with
    | str x hx => cases hb with
      | str y hy =>
        split at h
        · rename_i c
          refine op_add_str ps s σ' H _ _ v u Q I rx ry ⟨_, _, rfl, rfl, by rw [toS_length, toS_length, ← lim_eq]; exact c, ?_⟩
          rw [toS_append]
          exact h.here hr (.str _ (okS_append hx hy c))
        · exact h.elim
  · cases ha with
    | tup hx rx' => cases hb with
      | tup hy ry' =>
        split at h
        · rename_i x y c
          refine op_catA ps s σ' H _ _ v u Q I rx ry ⟨_, _, _, _, rfl, rfl, hx, hy, by rw [← rx'.length, ← ry'.length, ← lim_eq]; exact c, fun e => ?_, fun _ e => ?_, fun _ _ p hp => ?_⟩
          · subst e
            cases rx'
            exact h.here hr (.tup hy (by simpa using ry'))
          · subst e
            cases ry'
            exact h.here hr (.tup hx (by simpa using rx'))
          · exact h ι _ _ (Le.new hp) (hr.new hp) (vr_tup_new hp (rx'.append ry'))
        · exact h.elim
  · cases ha with
    | @ref m1 a1 ha1 => cases hb with
      | @ref m2 a2 ha2 =>
        split at h
        · rename_i e1 e2
          obtain ⟨vs1, h1, r1⟩ := hr.list_at e1 ha1
          obtain ⟨vs2, h2, r2⟩ := hr.list_at e2 ha2
          split at h
          · rename_i c
            refine op_cat ps s σ' H _ _ v u Q I rx ry ⟨_, _, vs1, vs2, rfl, rfl, h1, h2, by rw [← r1.length, ← r2.length, ← lim_eq]; exact c, fun p hp => ?_⟩
            exact lay_post0 h hr (r1.append r2) hp
          · exact h.elim
        · exact h.elim
  · cases ha with
    | str x hx =>
      cases hb
      split at h
      · rename_i z j c
        have c3 : (1 ≤ j ∧ j ≤ 1000000) ∧ z.length * j.toNat ≤ LIM := by simpa using c
        refine op_mulS ps s σ' H _ _ v u Q I rx ry ⟨_, _, rfl, rfl, c3.1.1, c3.1.2, by rw [← lim_eq]; exact c3.2, ?_⟩
        refine h.here hr (.str _ ⟨?_, fun k hk => ?_⟩)
        · rw [List.length_flatten]
          simp only [List.map_replicate, List.sum_replicate_nat]
          rw [Nat.mul_comm]
          exact c3.2
        · obtain ⟨l, hl, hk⟩ := List.mem_flatten.mp hk
          rw [(List.mem_replicate.mp hl).2] at hk
          exact hx.2 k hk
      · exact h.elim
  · exact h.elim

/-! ### comparisons -/
mutual
def pd : Val → PyData
  | .non => .none
  | .bl b => .bool b
  | .int i => .int i
  | .str s => .str (toS s)
  | .tup xs => .tuple (pds xs)
  | .frz _ => .none
  | .ref _ => .none
  | .fn _ => .none
def pds : List Val → List PyData
  | [] => []
  | x :: xs => pd x :: pds xs
end
mutual
theorem eqv_pd : ∀ a b : Val, noRef a = true → noRef b = true → PyData.eqv (pd a) (pd b) = eqV a b
  | .non, b, _, hb => by cases b <;> simp_all [pd, PyData.eqv, eqV, noRef]
  | .bl _, b, _, hb => by cases b <;> simp_all [pd, PyData.eqv, eqV, noRef]
  | .int _, b, _, hb => by cases b <;> simp_all [pd, PyData.eqv, eqV, noRef]
  | .str x, b, _, hb => by
    cases b with
    | str y =>
      simp only [pd, PyData.eqv, eqV]
      by_cases h : x = y
      · subst h; simp
      · have h2 : ¬ toS x = toS y := fun e => h (toS_inj e)
        rw [beq_eq_false_iff_ne.mpr h2, beq_eq_false_iff_ne.mpr h]
    | _ => simp_all [pd, PyData.eqv, eqV, noRef]
  | .tup xs, b, ha, hb => by
    cases b with
    | tup ys =>
      simp only [pd, PyData.eqv, eqV]
      exact eqv_pds xs ys (by simpa [noRef] using ha) (by simpa [noRef] using hb)
    | _ => simp_all [pd, PyData.eqv, eqV, noRef]
  | .ref _, _, ha, _ => by simp [noRef] at ha
  | .frz _, _, ha, _ => by simp [noRef] at ha
  | .fn _, _, ha, _ => by simp [noRef] at ha
theorem eqv_pds : ∀ xs ys : List Val, noRefs xs = true → noRefs ys = true → PyData.eqvAll (pds xs) (pds ys) = eqVs xs ys
  | [], [], _, _ => by simp [pds, PyData.eqvAll, eqVs]
  | [], _ :: _, _, _ => by simp [pds, PyData.eqvAll, eqVs]
  | _ :: _, [], _, _ => by simp [pds, PyData.eqvAll, eqVs]
  | x :: xs, y :: ys, ha, hb => by
    have ha' : noRef x = true ∧ noRefs xs = true := by simpa [noRefs] using ha
    have hb' : noRef y = true ∧ noRefs ys = true := by simpa [noRefs] using hb
    simp only [pds, PyData.eqvAll, eqVs]
    rw [eqv_pd x y ha'.1 hb'.1, eqv_pds xs ys ha'.2 hb'.2]
end
mutual
theorem pd_depth : ∀ a : Val, (pd a).depth = depth a
  | .non => by simp [pd, PyData.depth, depth]
  | .bl _ => by simp [pd, PyData.depth, depth]
  | .int _ => by simp [pd, PyData.depth, depth]
  | .str _ => by simp [pd, PyData.depth, depth]
  | .tup xs => by simp only [pd, PyData.depth, depth]; rw [pds_depth xs]
  | .ref _ => by simp [pd, PyData.depth, depth]
  | .frz _ => by simp [pd, PyData.depth, depth]
  | .fn _ => by simp [pd, PyData.depth, depth]
theorem pds_depth : ∀ xs : List Val, PyData.depthAll (pds xs) = depths xs
  | [] => by simp [pds, PyData.depthAll, depths]
  | x :: xs => by simp only [pds, PyData.depthAll, depths]; rw [pd_depth x, pds_depth xs]
end
theorem strOk_of {s : List Nat} (h : okS s) : PyData.strOk (toS s) = true := by
  unfold PyData.strOk toS
  rw [List.all_toArray, List.all_eq_true]
  intro c hc
  have := h.2 c hc
  simp; omega
mutual
theorem VR.dp {K : PySem.W.Frag} {ι : List Addr} {H : Hp} : ∀ {x : Val} {v : V}, VR K ι H x v → noRef x = true → Dp K H v (pd x) ∧ (pd x).canLay0 = true
  | _, _, .non, _ => ⟨by simp only [pd]; exact .non, by simp [pd, PyData.canLay0]⟩
  | _, _, .bl b, _ => ⟨by simp only [pd]; exact .bl b, by simp [pd, PyData.canLay0]⟩
  | _, _, .int i, _ => ⟨by simp only [pd]; exact .int i, by simp [pd, PyData.canLay0]⟩
  | _, _, .str s h, _ => ⟨by simp only [pd]; exact .str _, by simp only [pd, PyData.canLay0]; exact strOk_of h⟩
  | .tup xs, _, .tup h hs, n => by
    have q := VRs.dp hs (by simpa [noRef] using n)
    exact ⟨by simp only [pd]; exact .tup h q.1, by simp only [pd, PyData.canLay0]; exact q.2⟩
  | .ref k, _, .ref h, n => by simp [noRef] at n
  | .frz k, _, .frz h _, n => by simp [noRef] at n
  | .fn x, _, .fn _, n => by simp [noRef] at n
theorem VRs.dp {K : PySem.W.Frag} {ι : List Addr} {H : Hp} : ∀ {xs : List Val} {vs : List V}, VRs K ι H xs vs → noRefs xs = true → DpAll K H vs (pds xs) ∧ PyData.canLayAll0 (pds xs) = true
  | _, _, .nil, _ => ⟨by simp only [pds]; exact .nil, by simp [pds, PyData.canLayAll0]⟩
  | x :: xs, _, .cons h hs, n => by
    have n' : noRef x = true ∧ noRefs xs = true := by simpa [noRefs] using n
    have a := VR.dp h n'.1
    have b := VRs.dp hs n'.2
    exact ⟨by simp only [pds]; exact .cons a.1 b.1, by simp only [pds, PyData.canLayAll0, a.2, b.2, Bool.and_self]⟩
end
theorem VR.shaped {K : PySem.W.Frag} {ι : List Addr} {H : Hp} {x : Val} {v : V} (h : VR K ι H x v) (n : noRef x = true) (d : depth x ≤ 60) : SeqAt.shaped (pd x) = true := by
  unfold SeqAt.shaped
  rw [(h.dp n).2, pd_depth, Bool.true_and]
  exact decide_eq_true (by omega)
theorem shaped_list {xs : List Val} (h : PyData.canLayAll0 (pds xs) = true) (d : depths xs ≤ 59) : SeqAt.shaped (.list (pds xs)) = true := by
  have hd : (PyData.list (pds xs)).depth ≤ 64 := by
    simp only [PyData.depth]
    rw [pds_depth]
    omega
  have hc : (PyData.list (pds xs)).canLay0 = true := by
    simp only [PyData.canLay0]
    exact h
  unfold SeqAt.shaped
  rw [hc, Bool.true_and]
  exact decide_eq_true hd
theorem flat_ok {K : PySem.W.Frag} {ι : List Addr} {H : Hp} {x : Val} {v : V} (r : VR K ι H x v) (h : flatB x = true) : flatV v = true := by
  cases r <;> first | rfl | cases h
theorem flat_eq {K : PySem.W.Frag} {ι : List Addr} {H : Hp} {x y : Val} {v w : V} (rx : VR K ι H x v) (ry : VR K ι H y w) (hx : flatB x = true) (hy : flatB y = true) : L2.eqV w v = Mi.eqV y x := by
  cases rx <;> first | cases hx | skip
  all_goals (cases ry <;> first | cases hy | skip)
  all_goals first | rfl | (simp only [L2.eqV, Mi.eqV]) | (simp [L2.eqV, Mi.eqV])
  rename_i a _ b _
  by_cases e : b = a
  · subst e; simp
  · rw [beq_eq_false_iff_ne.mpr e, beq_eq_false_iff_ne.mpr fun z => e (toS_inj z)]
theorem flats_ok {K : PySem.W.Frag} {ι : List Addr} {H : Hp} {x : Val} {v : V} (rx : VR K ι H x v) (hx : flatB x = true) : ∀ {ys : List Val} {ws : List V}, VRs K ι H ys ws → ys.all flatB = true → ws.all flatV = true ∧ inV v ws = ys.any fun y => Mi.eqV y x
  | [], _, .nil, _ => ⟨rfl, rfl⟩
  | y :: ys, _, .cons h t, k => by
    rw [List.all_cons, Bool.and_eq_true] at k
    obtain ⟨h1, h2⟩ := flats_ok rx hx t k.2
    refine ⟨by rw [List.all_cons, flat_ok h k.1, h1]; rfl, ?_⟩
    unfold inV at h2 ⊢
    rw [List.any_cons, List.any_cons, h2, flat_eq rx h hx k.1]
def cop : Cmp → CmpOp
  | .eq => .Eq | .ne => .NotEq | .lt => .Lt | .le => .LtE | .gt => .Gt | .ge => .GtE | .isN => .Is | .isNotN => .IsNot | .inn => .In | .notIn => .NotIn
theorem VR.non_iff {K : PySem.W.Frag} {ι : List Addr} {H : Hp} {x : Val} {v : V} (h : VR K ι H x v) : decide (v = .non) = isNon x := by
  cases h <;> simp [isNon]
def rCmp (G : Gs) (o : Cmp) : R2 := fun x y H Q => ∃ ι M a b k, HR G ι M H ∧ VR G.K ι H a x ∧ VR G.K ι H b y ∧ cmpV o a b M = some k ∧ Q (.bl k) H
theorem cmp_run (gk : G.K = X.K) (hu : X.A.units + 64 < cLine) (o : Cmp) : OpR X (compareOp (cop o)) (rCmp G o) := by
  obtain ⟨K, cl⟩ := G
  obtain rfl : K = X.K := gk
  rintro ps s σ' H x y v u Q I rx ry ⟨ι, M, a, b, k, hr, ha, hb, e, q⟩
  unfold cmpV at e
  split at e
  · cases hb
    refine op_isN ps s σ' H _ _ v u Q I rx ry ⟨rfl, ?_⟩
    rw [ha.non_iff]
    cases e
    exact q
  · cases hb
    refine op_notN ps s σ' H _ _ v u Q I rx ry ⟨rfl, ?_⟩
    rw [ha.non_iff]
    cases e
    exact q
  · cases ha; cases hb; cases e
    exact op_is_bl ps s σ' H _ _ v u Q I rx ry ⟨_, _, rfl, rfl, q⟩
  · cases ha; cases hb; cases e
    exact op_isnot_bl ps s σ' H _ _ v u Q I rx ry ⟨_, _, rfl, rfl, q⟩
  · cases ha; cases hb; cases e
    exact op_lt ps s σ' H _ _ v u Q I rx ry ⟨_, _, rfl, rfl, q⟩
  · cases ha; cases hb; cases e
    exact op_le ps s σ' H _ _ v u Q I rx ry ⟨_, _, rfl, rfl, q⟩
  · cases ha; cases hb; cases e
    exact op_gt ps s σ' H _ _ v u Q I rx ry ⟨_, _, rfl, rfl, q⟩
  · cases ha; cases hb; cases e
    exact op_ge ps s σ' H _ _ v u Q I rx ry ⟨_, _, rfl, rfl, q⟩
  · cases ha; cases hb; cases e
    exact op_lt_str ps s σ' H _ _ v u Q I rx ry ⟨_, _, rfl, rfl, by rw [toS_list, toS_list]; exact q⟩
  · cases ha; cases hb; cases e
    exact op_le_str ps s σ' H _ _ v u Q I rx ry ⟨_, _, rfl, rfl, by rw [toS_list, toS_list]; exact q⟩
  · cases ha with
    | ref ha => cases hb with
      | ref hb =>
        unfold eqL at e
        split at e
        · rename_i e1 e2
          obtain ⟨vs1, h1, r1⟩ := hr.sq_at e1 ha
          obtain ⟨vs2, h2, r2⟩ := hr.sq_at e2 hb
          split at e
          · rename_i xs ys c
            cases e
            have c' : ((noRefs xs = true ∧ noRefs ys = true) ∧ depths xs ≤ 59) ∧ depths ys ≤ 59 := by simpa using c
            have z1 := VRs.dp r1 c'.1.1.1
            have z2 := VRs.dp r2 c'.1.1.2
            refine op_eqD hu ps s σ' H _ _ v u Q I rx ry ⟨.list (pds xs), .list (pds ys), .lst h1 z1.1, .lst h2 z2.1, shaped_list z1.2 c'.1.2, shaped_list z2.2 c'.2, ?_⟩
            have : PyData.eqv (.list (pds xs)) (.list (pds ys)) = eqVs xs ys := by
              simp only [PyData.eqv]
              exact eqv_pds xs ys c'.1.1.1 c'.1.1.2
            rw [this]
            exact q
          · cases e
        · cases e
  · cases ha with
    | ref ha => cases hb with
      | ref hb =>
        unfold eqL at e
        split at e
        · rename_i e1 e2
          obtain ⟨vs1, h1, r1⟩ := hr.sq_at e1 ha
          obtain ⟨vs2, h2, r2⟩ := hr.sq_at e2 hb
          split at e
          · rename_i xs ys c
            cases e
            have c' : ((noRefs xs = true ∧ noRefs ys = true) ∧ depths xs ≤ 59) ∧ depths ys ≤ 59 := by simpa using c
            have z1 := VRs.dp r1 c'.1.1.1
            have z2 := VRs.dp r2 c'.1.1.2
            refine op_neD hu ps s σ' H _ _ v u Q I rx ry ⟨.list (pds xs), .list (pds ys), .lst h1 z1.1, .lst h2 z2.1, shaped_list z1.2 c'.1.2, shaped_list z2.2 c'.2, ?_⟩
            have : PyData.eqv (.list (pds xs)) (.list (pds ys)) = eqVs xs ys := by
              simp only [PyData.eqv]
              exact eqv_pds xs ys c'.1.1.1 c'.1.1.2
            rw [this]
            exact q
          · cases e
        · cases e
  · split at e
    · rename_i c
      cases e
      have c' : ((noRef a = true ∧ noRef b = true) ∧ depth a ≤ 60) ∧ depth b ≤ 60 := by simpa using c
      refine op_eqD hu ps s σ' H _ _ v u Q I rx ry ⟨pd a, pd b, (ha.dp c'.1.1.1).1, (hb.dp c'.1.1.2).1, ha.shaped c'.1.1.1 c'.1.2, hb.shaped c'.1.1.2 c'.2, ?_⟩
      rw [eqv_pd a b c'.1.1.1 c'.1.1.2]
      exact q
    · cases e
  · split at e
    · rename_i c
      cases e
      have c' : ((noRef a = true ∧ noRef b = true) ∧ depth a ≤ 60) ∧ depth b ≤ 60 := by simpa using c
      refine op_neD hu ps s σ' H _ _ v u Q I rx ry ⟨pd a, pd b, (ha.dp c'.1.1.1).1, (hb.dp c'.1.1.2).1, ha.shaped c'.1.1.1 c'.1.2, hb.shaped c'.1.1.2 c'.2, ?_⟩
      rw [eqv_pd a b c'.1.1.1 c'.1.1.2]
      exact q
    · cases e
  · cases ha; cases hb; cases e
    exact op_in_sign ps s σ' H _ _ v u Q I rx ry ⟨_, _, rfl, rfl, by rw [toS_list]; exact q⟩
  · cases ha; cases hb; cases e
    exact op_notIn_sign ps s σ' H _ _ v u Q I rx ry ⟨_, _, rfl, rfl, by rw [toS_list]; exact q⟩
  · cases hb with
    | tup hT rr =>
      split at e
      · rename_i c
        cases e
        obtain ⟨c1, c2⟩ := Bool.and_eq_true_iff.mp c
        obtain ⟨f1, f2⟩ := flats_ok ha c1 rr c2
        refine op_in_seq ps s σ' H _ _ v u Q I rx ry ⟨_, _, rfl, .inr hT, flat_ok ha c1, f1, ?_⟩
        rw [if_neg (by decide), f2]
        exact q
      · cases e
  · cases hb with
    | tup hT rr =>
      split at e
      · rename_i c
        cases e
        obtain ⟨c1, c2⟩ := Bool.and_eq_true_iff.mp c
        obtain ⟨f1, f2⟩ := flats_ok ha c1 rr c2
        refine op_notIn_seq ps s σ' H _ _ v u Q I rx ry ⟨_, _, rfl, .inr hT, flat_ok ha c1, f1, ?_⟩
        rw [if_pos rfl, f2]
        exact q
      · cases e
  · cases e

/-! ### truth, length -/
theorem okS.len {s : List Nat} (h : okS s) : (toS s).length ≤ sizeLine := by rw [toS_length, ← lim_eq]; exact h.1
theorem VRs.isEmpty {K : PySem.W.Frag} {ι : List Addr} {H : Hp} {xs : List Val} {vs : List V} (h : VRs K ι H xs vs) : xs.isEmpty = vs.isEmpty := by
  cases h <;> rfl
theorem truth_ok {ι : List Addr} {M : Store} {H : Hp} {x : Val} {v : V} {k : Bool} (hr : HR G ι M H) (h : VR G.K ι H x v) (e : truth M x = some k) : TruV G.K v H k := by
  cases h with
  | non => cases e; rfl
  | bl b => cases e; rfl
  | int i => cases e; rfl
  | str s hs =>
    cases e
    refine ⟨hs.len, ?_⟩
    rw [toS_length]
    cases s with
    | nil => rfl
    | cons c s =>
      have : ((((c :: s).length : Nat) : Int) != 0) = true := by
        rw [bne_iff_ne]; simp; omega
      rw [this]; rfl
  | tup h hs =>
    cases e
    exact .inr (.inl ⟨_, h, by rw [hs.isEmpty]⟩)
  | frz h hs =>
    cases e
    exact .inl ⟨_, h.sq, by rw [hs.isEmpty]⟩
  | fn x => cases e
  | @ref n a h =>
    simp only [truth] at e
    split at e
    · rename_i xs em
      cases e
      obtain ⟨vs, h1, h2⟩ := hr.sq_at em h
      exact .inl ⟨vs, h1, by rw [h2.isEmpty]⟩
    · cases e
theorem len_ok {ι : List Addr} {M : Store} {H : Hp} {x : Val} {v : V} {n : Nat} (hr : HR G ι M H) (h : VR G.K ι H x v) (e : lenV M x = some n) : LenV G.K v H n := by
  cases h with
  | non => cases e
  | bl b => cases e
  | int i => cases e
  | str s hs => cases e; exact ⟨hs.len, by rw [toS_length]⟩
  | tup h hs => cases e; exact .inr ⟨_, h, hs.length⟩
  | frz h hs => cases e; exact .inl ⟨_, h.sq, hs.length⟩
  | fn x => cases e
  | @ref m a h =>
    simp only [lenV] at e
    split at e
    · rename_i em
      cases e
      obtain ⟨vs, h1, h2⟩ := hr.sq_at em h
      exact .inl ⟨vs, h1, h2.length⟩
    · cases e
end
end Mi
end MiExpS

section MiCallS
set_option Elab.async false
set_option linter.all false
set_option maxRecDepth 100000
/-! calls where no repr is under way -/
namespace Mi
open PySem PySem.Spec PyProof.Rows L2
abbrev XT (P : Program) (w : World) : CXT := L2.CX P w
/-- a def keeps its promise wherever no repr is under way -/
structure FnG (P : Program) (w : World) (K : PySem.W.Frag) (mg : Str → Option Value) (base : Heap) (k : Nat) (f : Addr) (fd : FuncData) (ps : List Str) (sp : Sp) : Prop where
  many : ∀ xs H Q E, sp xs H Q E → xs.length = ps.length
  go : ∀ (A : Around) (o : List Env) (z : Shared) (H : Hp) (ar : Args) (us : List Value) (xs : List V) (Q : VK) (E : XK), A.guards = some [] → Room k A → Env0 P w K mg base A o z H → BindsTo z fd ar (ps.zip us) → Vals xs us → sp xs H Q E → codeAny (model P w) A (.call (.ref f) ar) (CR (XT P w) o P w H z Q E) z
theorem Around.deep_guards {A : Around} {env : Env} (h : A.guards = some []) : (A.deeper env).guards = some [] := by
  first
    | exact h
    | simp [Around.deeper, h, pushGuards]
section
variable {X : Cx} {k : Nat} {f : Addr} {fd : FuncData} {ps : List Str} {sp : Sp} {E : L2.St → XK} {x : Str} {p pos : Pos}
theorem goG {pl : List (Addr × PySem.Obj)} {σ : L2.St} {H : Hp} {z : Shared} {Q : VK} {us : List Value} {xs : List V} (F : FnG X.prog X.w X.K X.mg X.base k f fd ps sp) (gd : X.A.guards = some []) (rm : Room k X.A) (bn : Binds X.K fd ps []) (px : PassesAt (XT X.prog X.w) X σ (E σ)) (J : Inv X pl σ H z) (rv : Vals xs us) (q : sp xs H Q (E σ)) :
    wpAny (model X.prog X.w) X.A (PySem.call (.ref f) us) (EP X pl σ Q) X.xe z := by
  have n1 : us.length = ps.length := rv.length ▸ F.many _ _ _ _ q
  have n2 := bn z us J.kIn (by simpa using n1)
  simp only [List.append_nil] at n2
  refine wpAny_call (codeAny_mono (F.go X.A X.stack z H ⟨us, []⟩ us xs Q (E σ) gd rm J.env0 n2 rv q) ?_)
  intro r z2 hq
  match r, hq with
  | .error e, hq => exact px pl H z e z2 J hq
  | .ok (.ret u), hq => exact J.after hq
theorem callG {e : Expr} {es : List Expr} {t : TA} (F : FnG X.prog X.w X.K X.mg X.base k f fd ps sp) (gd : X.A.guards = some []) (rm : Room k X.A) (hg : Gl X x) (hm : X.mg x = some (.ref f)) (kp : PySem.W.keepIn X.K (.ref f) = true) (bn : Binds X.K fd ps []) (px : ∀ σ, PassesAt (XT X.prog X.w) X σ (E σ)) (ha : PA X (e :: es) t) (nd : (x == ("__debug__" : Str)) = false)
    (h1 : starEach (e :: es) X.env = (false, eval e X.env) :: starEach es X.env) (h2 : (backTo pos (starEach es X.env)).any (·.1) = false) : PE X (.Call (.Name x p) (e :: es) [] pos) (tCallS sp E t) := by
  constructor
  intro pl z σ H Q J q
  refine wpAny_Call_Name_kw (ld_glob J hg hm (PySem.W.callWith_K (h₀ := X.base) J.ok.mod.kin kp ?_ h1 h2) nd)
  refine thn (ha.run pos pl z σ H _ J q) ?_
  rintro us z1 ⟨xs, H1, J1, rv, q1⟩
  exact ⟨J1.kIn, goG F gd rm bn (px σ) J1 rv q1⟩
theorem callG0 (F : FnG X.prog X.w X.K X.mg X.base k f fd ps sp) (gd : X.A.guards = some []) (rm : Room k X.A) (hg : Gl X x) (hm : X.mg x = some (.ref f)) (kp : PySem.W.keepIn X.K (.ref f) = true) (bn : Binds X.K fd ps []) (px : ∀ σ, PassesAt (XT X.prog X.w) X σ (E σ)) (nd : (x == ("__debug__" : Str)) = false) : PE X (.Call (.Name x p) [] [] pos) (tCallS sp E tNil) := by
  constructor
  intro pl z σ H Q J q
  exact wpAny_Call_Name_kw (ld_glob J hg hm (PySem.W.callWith_K0 J.kIn kp (goG (us := []) F gd rm bn (px σ) J .nil q)) nd)
end
/-- a def by its body, where no repr is under way -/
theorem fnG {P : Program} {w : World} {K : PySem.W.Frag} {mg : Str → Option Value} {base : Heap} {k : Nat} {f : Addr} {fd : FuncData} {x qual : Str} {pa : Arguments} {bd : List Stmt} {sc : Scope} {dvs : List V} {kws : List (Str × V)} {N ps : List Str} {sp : Sp} (F : FunD K x qual pa bd sc dvs kws f fd) (S : FnScope N ps sc) (many : ∀ xs H Q E, sp xs H Q E → xs.length = ps.length)
    (body : ∀ (cv : Value) (A : Around) (o : List Env) (z : Shared) (H : Hp) (xs : List V) (Q : VK) (E : XK), A.guards = some [] → Room k (A.deeper (envOfC qual sc z.heap.objs.size f cv)) → sp xs H Q E → ∃ t, PSs (cxOf (XT P w) P w K mg base N qual sc f cv A o z H E) bd t ∧ t { nx := fun _ H' => Q .non H', rt := Q } (L2.start N xs) H) :
    FnG P w K mg base (k + 1) f fd ps sp := by
  obtain ⟨oc, od, dV, kV, doc, pm, an, cv, ct, sl, rfl, lk, hcv, _, _⟩ := F.ex
  refine ⟨many, ?_⟩
  intro A o z H ar us xs Q E gd rm e0 bn rv q
  have hl := many _ _ _ _ q
  have kz : ∀ b u, base.get? b = some u → z.heap.get? b = some u := fun b u e => (e0.bs b u e).1
  have KX : K.In z.heap := e0.mod.kin.keeps kz
  refine codeAny_call_function rm.depth (KX _ _ lk) rfl S.co S.gen rfl (PySem.W.codeRec_of KX hcv) (bn _ _ _ _ (wpAny_newFunctionEnv_cells S.kind ?_ ?_))
  · rintro ⟨n, v⟩ hy
    rcases S.par n (List.of_mem_zip hy).1 with c | c
    · exact .inl c
    · exact .inr ⟨c, PySem.W.cellsFrom_some _ _ _ (.inl c)⟩
  · intro env he z1 cx
    subst he
    obtain ⟨t, ht, hq⟩ := body cv A o z H xs Q E gd (rm.deeper _) q
    refine ⟨(e0.mod.nolimit.keeps kz).keeps cx.toInCall.keep, codeAny_func ?_⟩
    refine wpAny_mono (ht.run [] z1 (L2.start N xs) H _ (inv_start S rm.hd e0 hl rv cx) hq) ?_ fun _ _ z => z
    intro fl z2 hs
    match fl, hs with
    | .ret u, ⟨v, σ', H', J, r2, q2⟩ => exact ⟨v, H', J.os, J.bare, J.base, J.hok, r2, q2⟩
    | .next, ⟨σ', H', J, q2⟩ => exact ⟨V.non, H', J.os, J.bare, J.base, J.hok, (rfl : RelV V.non Value.none), q2⟩
    | .brk, ⟨_, _, _, q2⟩ => exact q2.elim
    | .cont, ⟨_, _, _, q2⟩ => exact q2.elim
end Mi
end MiCallS

section MiRunS
set_option Elab.async false
set_option linter.all false
set_option maxRecDepth 100000
/-! the walked tree keeps to the runs of the small language: expressions -/
namespace Mi
open PySem L2

inductive GI where
  | fn (g k : Nat) | con (v : Val) | exc (c : Nat) | blt | tab
structure Ct where
  sc : Scope
  N : List Str
  gl : Str → Option GI
  fnc : Str → Bool
/-- what a call of the small language promises -/
def PostC (G : Gs) (ι : List Addr) (H : Hp) (Q : VK) (E : XK) : Res Val → Prop
  | .ok v M => ∀ ι' H' w, Le ι H ι' H' → HR G ι' M H' → VR G.K ι' H' v w → Q w H'
  | .exc x M => ∀ ι' H' cls d, Le ι H ι' H' → HR G ι' M H' → XR G ι' H' x cls d → E cls d H'
  | .bad => False
def spI (G : Gs) (cf : CallF) (g k : Nat) : Sp := fun vs H Q E => ∃ ι M xs, xs.length = k ∧ VRs G.K ι H xs vs ∧ HR G ι M H ∧ PostC G ι H Q E (cf g xs M)
structure FnAt (X : Cx) (G : Gs) (cf : CallF) (lv : Nat) (x : Str) (g k : Nat) : Prop where
  ex : ∃ (f : Addr) (fd : FuncData) (ps : List Str), X.mg x = some (.ref f) ∧ PySem.W.keepIn X.K (.ref f) = true ∧ Binds X.K fd ps [] ∧ FnG X.prog X.w X.K X.mg X.base lv f fd ps (spI G cf g k)
/-- a def that is a value, by its name -/
structure FnX (X : Cx) (G : Gs) (cf : CallF) (lv : Nat) (x : Str) (g : Nat) : Prop where
  ex : ∃ (k : Nat) (fd : FuncData) (ps : List Str), PySem.W.keepIn X.K (.ref (He.ga X.K x)) = true ∧ Binds X.K fd ps [] ∧ FnG X.prog X.w X.K X.mg X.base lv (He.ga X.K x) fd ps (spI G cf g k) ∧ ∀ xs M, xs.length ≠ k → cf g xs M = .bad
/-- a table of the module with text keys -/
structure TabAt (X : Cx) (x : Str) (kvs : List (List Nat × Val)) : Prop where
  mg : X.mg x = some (.ref (He.ga X.K x))
  dic : ∃ es n, KDict X.K X.w (He.ga X.K x) es n
  get : ∀ s v, (kvs.find? fun p => p.1 == s).map (·.2) = some v → ∃ u w, PySem.W.nsIn X.K (He.ga X.K x) (toS s) = some (some u) ∧ RelV w u ∧ ∀ ι H, VR X.K ι H v w
  has : ∀ s, ∃ r, PySem.W.nsIn X.K (He.ga X.K x) (toS s) = some r ∧ r.isSome = kvs.any fun p => p.1 == s
structure ExcAt (X : Cx) (G : Gs) (x : Str) (c : Nat) : Prop where
  mg : X.mg x = some (.ref (G.cls c))
  inn : ∃ (bmB : List Value) (B newId initId : String), ExcBaseFacts B newId initId bmB ∧ PySem.W.excIn X.K (G.cls c) bmB newId = true
  kp : PySem.W.keepIn X.K (.ref (G.cls c)) = true
  is : ExcC X.K (G.cls c)
  ty : PySem.W.typeIn X.K (.ref (G.cls c)) = some (.type "type")
  no : ∀ T ∈ ["int", "bool", "str", "tuple", "list", "dict"], PySem.W.kitOne X.K (.ref (G.cls c)) (.type T) = some false
/-- what repr gives -/
def rRepr (G : Gs) (rp : Val → Store → Option (List Nat)) : List V → Hp → VK → Prop := fun xs H Q => ∃ ι M a v z, xs = [v] ∧ HR G ι M H ∧ VR G.K ι H a v ∧ rp a M = some z ∧ okS z ∧ Q (.str (toS z)) H
def RepOk (G : Gs) (rp : Val → Store → Option (List Nat)) (lv : Nat) : Prop := ∀ X : Cx, X.K = G.K → X.A.guards = some [] → Room lv X.A → X.calm = true → CallR X (.builtin "repr") (rRepr G rp)
structure Good (X : Cx) (G : Gs) (W : WX) (cf : Cf) (ct : Ct) (lv : Nat) : Prop where
  gk : G.K = X.K
  sc : X.env.scope = ct.sc
  N : X.N = ct.N
  nd : X.N.Nodup
  calm : X.calm = true
  takes : Takes X W
  room : Room lv X.A
  gds : X.A.guards = some []
  fnc : X.fn = ct.fnc
  fn : ∀ x g k, ct.gl x = some (.fn g k) → FnAt X G cf.call lv x g k
  gaf : ∀ x g k, ct.gl x = some (.fn g k) → X.mg x = some (.ref (He.ga X.K x))
  fnx : ∀ x g, cf.eqx.fno x = some g → FnX X G cf.call lv x g
  tabs : ∀ x, ct.gl x = some .tab → ∃ kvs, cf.eqx.tab x = some kvs ∧ TabAt X x kvs
  con : ∀ x v, ct.gl x = some (.con v) → ∃ u w, X.mg x = some u ∧ RelV w u ∧ ∀ ι H, VR X.K ι H v w
  blt : ∀ x, ct.gl x = some .blt → X.mg x = none
  exc : ∀ x c, ct.gl x = some (.exc c) → ExcAt X G x c
  rep : RepOk G cf.repr lv
  exm : ∀ c1 c2 : Nat, PySem.W.exmOne X.K (.ref (G.cls c1)) (.ref (G.cls c2)) = some (cf.sub c1 c2)
  exs : ∀ c : Nat, ExcC X.K (G.cls c) ∧ ∀ T ∈ ["int", "bool", "str", "tuple", "list", "dict"], PySem.W.kitOne X.K (.ref (G.cls c)) (.type T) = some false
theorem Good.hu {X : Cx} {G : Gs} {W : WX} {cf : Cf} {ct : Ct} {lv : Nat} (g : Good X G W cf ct lv) : X.A.units + 64 < cLine := g.room.units
theorem Good.hu1 {X : Cx} {G : Gs} {W : WX} {cf : Cf} {ct : Ct} {lv : Nat} (g : Good X G W cf ct lv) : X.A.units + 1 < cLine := hu_of g.room

def visB (sc : Scope) (x : Str) : Bool := match sc.names.lookup x with
  | some .local => true
  | some .cell => true
  | some .free => true
  | _ => false
def glB (sc : Scope) (x : Str) : Bool := match sc.names.lookup x with
  | some .globalImplicit => true
  | _ => false
theorem visB_ok {sc : Scope} {x : Str} (h : visB sc x = true) : Vis sc x := by
  unfold visB at h
  split at h
  · exact .inl (by assumption)
  · exact .inr (.inl (by assumption))
  · exact .inr (.inr (by assumption))
  · cases h
theorem glB_ok {X : Cx} {sc : Scope} {x : Str} (e : X.env.scope = sc) (h : glB sc x = true) : Gl X x := by
  unfold glB at h
  split at h
  · show X.env.scope.names.lookup x = _
    rw [e]; assumption
  · cases h
/-- a test that asks a value for its truth -/
def plainTest : Expr → Bool
  | .UnaryOp .Not _ _ => false
  | .BoolOp _ _ _ => false
  | .IfExp _ _ _ _ => false
  | .Compare _ _ _ _ => false
  | _ => true
theorem plainTest_ok {e : Expr} {env : Env} (h : plainTest e = true) : ∀ whole, isTrue e env whole = (do let v ← whole; standAt e.pos; holding [v] (truthy v)) := by
  intro whole
  cases e with
  | UnaryOp op a p => cases op <;> first | rfl | cases h
  | BoolOp => cases h
  | IfExp => cases h
  | Compare => cases h
  | _ => rfl
def notSet : Expr → Bool
  | .Set _ _ _ => false
  | _ => true
theorem notSet_ok {b : Expr} {op : CmpOp} (h : notSet b = true) : behindInMarks op b = false := by
  cases b <;> first | rfl | cases h
def notSlice : Expr → Bool
  | .Slice _ _ _ _ => false
  | _ => true
theorem notSlice_ok {b : Expr} (h : notSlice b = true) : PlainIx b := by
  intro o i
  cases b <;> first | rfl | cases h
def notStar : Expr → Bool
  | .Starred _ _ => false
  | _ => true
theorem star_ok {e : Expr} {es : List Expr} {env : Env} (h : notStar e = true) : starEach (e :: es) env = (false, eval e env) :: starEach es env := by
  cases e <;> first | rfl | cases h
theorem stars_ok {env : Env} {pos : Pos} : ∀ {es : List Expr}, es.all notStar = true → (backTo pos (starEach es env)).any (·.1) = false
  | [], _ => rfl
  | e :: es, h => by
    have h' : notStar e = true ∧ es.all notStar = true := by simpa using h
    rw [star_ok h'.1]
    show (false || (backTo pos (starEach es env)).any (·.1)) = false
    rw [stars_ok h'.2]; rfl
def notCall0 : Expr → Bool
  | .Call (.Name _ _) [] [] _ => false
  | _ => true
theorem base_ok {o : Expr} {a : Str} {env : Env} {w : Sem Value} (h : notCall0 o = true) : attributeBase o a env w = w := by
  unfold attributeBase
  split
  · cases h
  · rfl
section
variable {X : Cx} {G : Gs} {W : WX} {cf : Cf} {ct : Ct} {lv : Nat}

theorem pt_of (g : Good X G W cf ct lv) {e : Expr} {m : E} (h : PE X e (tE G W cf m)) (hp : plainTest e = true) : PT X e (tT G W cf m) := by
  refine (pt_truth h (plainTest_ok hp)).imp fun σ H Q q => ?_
  obtain ⟨ι, τ, M, hs, hr, q⟩ := q
  refine ⟨ι, τ, M, hs, hr, q.bind fun x M1 ι1 H1 w _ l1 hr1 r1 q1 => ?_⟩
  obtain ⟨k, e, q2⟩ := q1.opt
  refine ⟨k, ?_, q2.here hr1 rfl⟩
  rw [← g.gk]
  exact truth_ok hr1 r1 e
theorem e_var (g : Good X G W cf ct lv) {i : Nat} {x : Str} {pos : Pos} (hN : ct.N[i]? = some x) (hv : visB ct.sc x = true) (h1 : (x == ("__debug__" : Str)) = false) (h2 : (x == ("__classdict__" : Str)) = false) : PE X (.Name x pos) (tE G W cf (.var i)) := by
  refine (pe_var (i := i) (by rw [g.N]; exact hN) (by rw [g.sc]; exact visB_ok hv) h1 h2).imp fun σ H Q q => ?_
  obtain ⟨ι, τ, M, hs, hr, q⟩ := q
  unfold ev at q
  split at q
  · rename_i v e
    obtain ⟨w, e2, r⟩ := hs.at_ i v e
    exact ⟨w, e2, q.here hr r⟩
  · exact q.elim
theorem e_cst (g : Good X G W cf ct lv) {e : Expr} {v : Val} {w : V} (h : PE X e (tC w)) (r : ∀ ι H, VR G.K ι H v w) : PE X e (tE G W cf (.cst v)) := by
  refine h.imp fun σ H Q q => ?_
  obtain ⟨ι, τ, M, hs, hr, q⟩ := q
  exact q.here hr (r ι H)
theorem e_con (g : Good X G W cf ct lv) {x : Str} {v : Val} {pos : Pos} (hg : glB ct.sc x = true) (hx : ct.gl x = some (.con v)) (h1 : (x == ("__debug__" : Str)) = false) : PE X (.Name x pos) (tE G W cf (.cst v)) := by
  obtain ⟨u, w, hm, r, k⟩ := g.con x v hx
  exact e_cst g (pe_glob (glB_ok g.sc hg) hm r h1) (by rw [g.gk]; exact k)
theorem e_op (g : Good X G W cf ct lv) {a b : Expr} {ma mb : E} {o : Op2} {pos : Pos} (ha : PE X a (tE G W cf ma)) (hb : PE X b (tE G W cf mb)) : PE X (.BinOp a (opr o) b pos) (tE G W cf (.op o ma mb)) := by
  refine (pe_op (op2_run (W := W) g.gk o) ha hb).imp fun σ H Q q => ?_
  obtain ⟨ι, τ, M, hs, hr, q⟩ := q
  unfold ev at q
  refine ⟨ι, τ, M, hs, hr, q.bind fun x M1 ι1 H1 v _ l1 hr1 r1 q1 => ?_⟩
  refine ⟨ι1, τ, M1, hs.mono l1, hr1, q1.bind fun y M2 ι2 H2 w _ l2 hr2 r2 q2 => ?_⟩
  exact ⟨σ, ι2, M2, x, y, hr2, r1.mono l2, r2, q2⟩
theorem cmp_read {σ : L2.St} {H : Hp} {Q : VK} {ma mb : E} {o : Cmp} (q : tE G W cf (.cmp o ma mb) σ H Q) : tOp (rCmp G o) (tE G W cf ma) (tE G W cf mb) σ H Q := by
  obtain ⟨ι, τ, M, hs, hr, q⟩ := q
  unfold ev at q
  refine ⟨ι, τ, M, hs, hr, q.bind fun x M1 ι1 H1 v _ l1 hr1 r1 q1 => ?_⟩
  refine ⟨ι1, τ, M1, hs.mono l1, hr1, q1.bind fun y M2 ι2 H2 w _ l2 hr2 r2 q2 => ?_⟩
  obtain ⟨z, e, q3⟩ := q2.opt
  obtain ⟨k, e2, rfl⟩ := Option.map_eq_some_iff.mp e
  exact ⟨ι2, M2, x, y, k, hr2, r1.mono l2, r2, e2, q3.here hr2 (.bl k)⟩
theorem e_cmp (g : Good X G W cf ct lv) {a b : Expr} {ma mb : E} {o : Cmp} {pos : Pos} (ha : PE X a (tE G W cf ma)) (hb : PE X b (tE G W cf mb)) (hn : notSet b = true) : PE X (.Compare a [cop o] [b] pos) (tE G W cf (.cmp o ma mb)) :=
  (pe_cmpR (cmp_run g.gk g.hu o) ha hb (notSet_ok hn)).imp fun σ H Q q => cmp_read q
theorem t_cmp (g : Good X G W cf ct lv) {a b : Expr} {ma mb : E} {o : Cmp} {pos : Pos} (ha : PE X a (tE G W cf ma)) (hb : PE X b (tE G W cf mb)) (hn : notSet b = true) : PT X (.Compare a [cop o] [b] pos) (tT G W cf (.cmp o ma mb)) := by
  refine (pt_cmpR (cmp_run g.gk g.hu o) ha hb (notSet_ok hn)).imp fun σ H Q q => ?_
  refine cmp_read (Q := fun x H' => ∃ k, x = .bl k ∧ Q k H') ?_
  obtain ⟨ι, τ, M, hs, hr, q⟩ := q
  refine ⟨ι, τ, M, hs, hr, q.bind fun x M1 ι1 H1 v e1 l1 hr1 r1 q1 => ?_⟩
  obtain ⟨k, e, q2⟩ := q1.opt
  unfold ev at e1
  have isb : ∃ b, x = .bl b := by
    cases h1 : ev cf ma τ M with
    | ok x1 M2 =>
      rw [h1] at e1
      cases h2 : ev cf mb τ M2 with
      | ok x2 M3 =>
        simp only [Res.bind_ok, h2] at e1
        cases h3 : cmpV o x1 x2 M3 with
        | none => rw [h3] at e1; cases e1
        | some b => rw [h3] at e1; cases e1; exact ⟨b, rfl⟩
      | exc => simp only [Res.bind_ok, h2] at e1; cases e1
      | bad => simp only [Res.bind_ok, h2] at e1; cases e1
    | exc => rw [h1] at e1; cases e1
    | bad => rw [h1] at e1; cases e1
  obtain ⟨b, rfl⟩ := isb
  cases r1
  cases e
  exact ⟨_, rfl, q2.here hr1 rfl⟩
end
end Mi
end MiRunS

section MiDicS
set_option Elab.async false
set_option linter.all false
set_option maxRecDepth 100000
namespace Mi
open PySem L2
/-! ### dicts: what they hold, a value put -/
theorem key_ok {K : PySem.W.Frag} {ι : List Addr} {H : Hp} {x : Val} {v : V} (r : VR K ι H x v) (h : keyV x = true) : ∃ k, keyOf x = some k ∧ v = kV k := by
  cases r with
  | int i => exact ⟨.inl i, rfl, rfl⟩
  | str s hs => exact ⟨.inr (toS s), rfl, rfl⟩
  | _ => cases h
theorem keyE_eq {x y : Val} {k l : Key} (hx : keyOf x = some k) (hy : keyOf y = some l) : keyE x y = decide (k = l) := by
  cases x with
  | int i => cases y with
    | int j =>
      cases hx; cases hy
      show (i == j) = _
      by_cases e : i = j
      · subst e; simp
      · have : ¬ (Sum.inl i : Key) = Sum.inl j := fun z => e (Sum.inl.inj z)
        rw [decide_eq_false this, beq_eq_false_iff_ne.mpr e]
    | str t =>
      cases hx; cases hy
      have : ¬ (Sum.inl i : Key) = Sum.inr (toS t) := fun z => by cases z
      rw [decide_eq_false this]; rfl
    | _ => cases hy
  | str s => cases y with
    | int j =>
      cases hx; cases hy
      have : ¬ (Sum.inr (toS s) : Key) = Sum.inl j := fun z => by cases z
      rw [decide_eq_false this]; rfl
    | str t =>
      cases hx; cases hy
      show (s == t) = _
      by_cases e : s = t
      · subst e; simp
      · have : ¬ (Sum.inr (toS s) : Key) = Sum.inr (toS t) := fun z => e (toS_inj (Sum.inr.inj z))
        rw [decide_eq_false this, beq_eq_false_iff_ne.mpr e]
    | _ => cases hy
  | _ => cases hx
theorem keyE_V {x y : Val} (h : keyE x y = true) : keyV y = true := by
  cases x <;> cases y <;> first | rfl | cases h
theorem KVs.get {K : PySem.W.Frag} {ι : List Addr} {H : Hp} {y : Val} {k : Key} (hy : keyOf y = some k) : ∀ {ks : List (Val × Val)} {ws : List (Key × V)}, KVs K ι H ks ws → ∀ {v : Val}, dicGet ks y = some v → ∃ w, valV ws k = some w ∧ VR K ι H v w
  | [], _, h, v, e => by simp [dicGet] at e
  | p :: ks, _, h, v, e => by
    cases h with
    | @cons _ q _ qs h1 t =>
      have ek := keyE_eq h1.1.1 hy
      unfold dicGet at e
      by_cases c : q.1 = k
      · rw [List.find?_cons, ek, decide_eq_true c] at e
        simp only [Option.map_some, Option.some.injEq] at e
        subst e
        exact ⟨q.2, valV_pos c, h1.2⟩
      · rw [List.find?_cons, ek, decide_eq_false c] at e
        rw [valV_neg c]
        exact KVs.get hy t (v := v) (by unfold dicGet; exact e)
theorem KVs.any {K : PySem.W.Frag} {ι : List Addr} {H : Hp} {y : Val} {k : Key} (hy : keyOf y = some k) : ∀ {ks : List (Val × Val)} {ws : List (Key × V)}, KVs K ι H ks ws → (ks.any fun p => keyE p.1 y) = ws.any fun q => decide (q.1 = k)
  | [], _, h => by cases h; rfl
  | p :: ks, _, h => by
    cases h with
    | @cons _ q _ qs h1 t =>
      rw [List.any_cons, List.any_cons, keyE_eq h1.1.1 hy, KVs.any hy t]
theorem KVs.repl {K : PySem.W.Frag} {ι : List Addr} {H : Hp} {y z : Val} {k : Key} {w : V} (hy : keyOf y = some k) (rz : VR K ι H z w) : ∀ {ks : List (Val × Val)} {ws : List (Key × V)}, KVs K ι H ks ws → KVs K ι H (ks.map fun p => if keyE p.1 y = true then (p.1, z) else p) (ws.map fun kv => if kv.1 = k then (kv.1, w) else kv)
  | [], _, h => by cases h; exact .nil
  | p :: ks, _, h => by
    cases h with
    | @cons _ q _ qs h1 t =>
      rw [List.map_cons, List.map_cons]
      refine .cons ?_ (KVs.repl hy rz t)
      rw [keyE_eq h1.1.1 hy]
      by_cases c : q.1 = k
      · rw [decide_eq_true c, if_pos rfl, if_pos c]; exact ⟨h1.1, rz⟩
      · rw [decide_eq_false c, if_neg (by decide), if_neg c]; exact h1
theorem KVs.put {K : PySem.W.Frag} {ι : List Addr} {H : Hp} {y z : Val} {k : Key} {w : V} (hy : keyOf y = some k) (ry : VR K ι H y (kV k)) (rz : VR K ι H z w) {ks : List (Val × Val)} {ws : List (Key × V)} (h : KVs K ι H ks ws) : KVs K ι H (dicPut ks y z) (putK ws k w) := by
  unfold dicPut putK
  rw [KVs.any hy h]
  split
  · exact KVs.repl hy rz h
  · exact Paired.snoc h ⟨⟨hy, ry⟩, rz⟩
theorem KVs.len {K : PySem.W.Frag} {ι : List Addr} {H : Hp} {ks : List (Val × Val)} {ws : List (Key × V)} (h : KVs K ι H ks ws) : ks.length = ws.length := Paired.length h
theorem HR.dic_at {G : Gs} {ι : List Addr} {M : Store} {H : Hp} (hr : HR G ι M H) {n : Nat} {a : Addr} {kvs : List (Val × Val)} (e : M[n]? = some (.dic kvs)) (ea : ι[n]? = some a) : ∃ ws, H a = some (.dK ws) ∧ KVs G.K ι H kvs ws := hr.obj n _ a e ea
/-- a dict of ours is changed -/
theorem HR.setD {G : Gs} {ι : List Addr} {M : Store} {H : Hp} (h : HR G ι M H) {n : Nat} {ks ls : List (Val × Val)} {vs ws : List (Key × V)} {a : Addr} (e : M[n]? = some (.dic ks)) (ea : ι[n]? = some a) (ha : H a = some (.dK vs)) (r : KVs G.K ι H ls ws) :
    HR G ι (M.set n (.dic ls)) (upd H a (.dK ws)) ∧ Le ι H ι (upd H a (.dK ws)) := by
  have l : Le ι H ι (upd H a (.dK ws)) := Le.set (mut_dK ha) (List.mem_of_getElem? ea)
  have hn : n < M.length := (List.getElem?_eq_some_iff.mp e).1
  refine ⟨⟨by simp [h.len], fun m u b e1 e2 => ?_, h.inj⟩, l⟩
  by_cases hm : n = m
  · subst hm
    rw [List.getElem?_set_self hn] at e1
    cases e1
    rw [ea] at e2; cases e2
    exact ⟨ws, upd_same, r.mono l⟩
  · rw [List.getElem?_set_ne hm] at e1
    refine (h.obj m u b e1 e2).stay l fun v q => ?_
    rw [upd_ne (fun z => hm (by
      obtain ⟨h1, e3⟩ := List.getElem?_eq_some_iff.mp ea
      obtain ⟨h2, e4⟩ := List.getElem?_eq_some_iff.mp e2
      exact (List.getElem_inj h.inj).mp (e3.trans (z.symm.trans e4.symm))))]
    exact q
section
variable {X : Cx}
/-- d[y] by values -/
theorem ix_dict (hu : X.A.units + 1 < cLine) : IxR X (fun x y H Q => ∃ a v, x = .ref a ∧ DGet H a y (some v) ∧ Q v H) := by
  intro value slice pins s σ H x y v u Q I rx ry h hs
  obtain ⟨a, w, rfl, g, q⟩ := h
  obtain rfl : v = Value.ref a := rx
  exact PyProof.Rows.tail_any (dict_typeIs I g) PySem.F.slot_dict_getitem.lookup (d_getItem hu I g ry fun w' s' I' rw' => ⟨w, H, I', rw', q⟩) hs
end
end Mi
end MiDicS

section MiRun2S
set_option Elab.async false
set_option linter.all false
set_option maxRecDepth 100000
namespace Mi
open PySem L2
section
variable {X : Cx} {G : Gs} {W : WX} {cf : Cf} {ct : Ct} {lv : Nat}

/-! ### chains, and, or, not -/
theorem chain_read {σ : L2.St} {H : Hp} {Q : VK} {ma mb mc : E} {o p : Cmp} (q : tE G W cf (.chain o p ma mb mc) σ H Q) :
    tChain (rCmp G o) (rCmp G p) (tE G W cf ma) (tE G W cf mb) (tE G W cf mc) σ H Q := by
  obtain ⟨ι, τ, M, hs, hr, q⟩ := q
  unfold ev at q
  refine ⟨ι, τ, M, hs, hr, q.bind fun x M1 ι1 H1 v _ l1 hr1 r1 q1 => ?_⟩
  refine ⟨ι1, τ, M1, hs.mono l1, hr1, q1.bind fun y M2 ι2 H2 w _ l2 hr2 r2 q2 => ?_⟩
  cases e : cmpV o x y M2 with
  | none => rw [e] at q2; exact q2.elim
  | some k =>
    rw [e] at q2
    refine ⟨ι2, M2, x, y, k, hr2, r1.mono l2, r2, e, k, rfl, ?_⟩
    simp only [ofOpt, Res.bind_ok] at q2
    cases k with
    | false =>
      simp only [Bool.false_eq_true, if_false] at q2 ⊢
      exact q2.here hr2 (.bl false)
    | true =>
      simp only [if_true] at q2 ⊢
      refine ⟨ι2, τ, M2, (hs.mono l1).mono l2, hr2, q2.bind fun z M3 ι3 H3 u _ l3 hr3 r3 q3 => ?_⟩
      obtain ⟨t, e1, q4⟩ := q3.opt
      obtain ⟨k2, e2, rfl⟩ := Option.map_eq_some_iff.mp e1
      exact ⟨ι3, M3, y, z, k2, hr3, r2.mono l3, r3, e2, q4.here hr3 (.bl k2)⟩
def notSets (b c : Expr) : Bool := notSet b && notSet c
theorem marks2 {o p : CmpOp} {b c : Expr} (h : notSet c = true) : lastMarks [o, p] [b, c] = false := by
  show lastMarks [p] [c] = false
  exact notSet_ok h
theorem e_chain (g : Good X G W cf ct lv) {a b c : Expr} {ma mb mc : E} {o p : Cmp} {pos : Pos} (ha : PE X a (tE G W cf ma)) (hb : PE X b (tE G W cf mb)) (hc : PE X c (tE G W cf mc)) (hn : notSet c = true) :
    PE X (.Compare a [cop o, cop p] [b, c] pos) (tE G W cf (.chain o p ma mb mc)) :=
  (pe_chain (cmp_run g.gk g.hu o) (cmp_run g.gk g.hu p) ha hb hc (marks2 hn)).imp fun σ H Q q => chain_read q
theorem chain_bool {ma mb mc : E} {o p : Cmp} {τ : St} {M M1 : Store} {x : Val} (e1 : ev cf (.chain o p ma mb mc) τ M = .ok x M1) : ∃ b, x = .bl b := by
  unfold ev at e1
  cases h1 : ev cf ma τ M with
  | ok x1 M2 =>
    rw [h1] at e1
    simp only [Res.bind_ok] at e1
    cases h2 : ev cf mb τ M2 with
    | ok x2 M3 =>
      rw [h2] at e1
      simp only [Res.bind_ok] at e1
      cases h3 : cmpV o x1 x2 M3 with
      | none => rw [h3] at e1; cases e1
      | some b =>
        rw [h3] at e1
        simp only [ofOpt, Res.bind_ok] at e1
        cases b with
        | false => simp only [Bool.false_eq_true, if_false] at e1; cases e1; exact ⟨_, rfl⟩
        | true =>
          simp only [if_true] at e1
          cases h4 : ev cf mc τ M3 with
          | ok x3 M4 =>
            rw [h4] at e1
            simp only [Res.bind_ok] at e1
            cases h5 : cmpV p x2 x3 M4 with
            | none => rw [h5] at e1; cases e1
            | some b => rw [h5] at e1; cases e1; exact ⟨b, rfl⟩
          | exc => rw [h4] at e1; cases e1
          | bad => rw [h4] at e1; cases e1
    | exc => rw [h2] at e1; cases e1
    | bad => rw [h2] at e1; cases e1
  | exc => rw [h1] at e1; cases e1
  | bad => rw [h1] at e1; cases e1
/-- a run that gives a bool, as a test -/
theorem test_read {σ : L2.St} {H : Hp} {Q : Bool → Hp → Prop} {m : E} (hb : ∀ τ M x M1, ev cf m τ M = .ok x M1 → ∃ b, x = .bl b) (q : tT G W cf m σ H Q) : tE G W cf m σ H fun x H' => ∃ k, x = .bl k ∧ Q k H' := by
  obtain ⟨ι, τ, M, hs, hr, q⟩ := q
  refine ⟨ι, τ, M, hs, hr, q.bind fun x M1 ι1 H1 v e1 l1 hr1 r1 q1 => ?_⟩
  obtain ⟨k, e, q2⟩ := q1.opt
  obtain ⟨b, rfl⟩ := hb _ _ _ _ e1
  cases r1
  cases e
  exact ⟨_, rfl, q2.here hr1 rfl⟩
theorem t_chain (g : Good X G W cf ct lv) {a b c : Expr} {ma mb mc : E} {o p : Cmp} {pos : Pos} (ha : PE X a (tE G W cf ma)) (hb : PE X b (tE G W cf mb)) (hc : PE X c (tE G W cf mc)) (hn : notSet c = true) :
    PT X (.Compare a [cop o, cop p] [b, c] pos) (tT G W cf (.chain o p ma mb mc)) :=
  (pt_chain (cmp_run g.gk g.hu o) (cmp_run g.gk g.hu p) ha hb hc (marks2 hn)).imp fun σ H Q q => chain_read (test_read (fun _ _ _ _ => chain_bool) q)
theorem e_neg (g : Good X G W cf ct lv) {a : Expr} {ma : E} {pos : Pos} (ha : PE X a (tE G W cf ma)) : PE X (.UnaryOp .USub a pos) (tE G W cf (.neg ma)) := by
  refine (pe_un un_neg ha).imp fun σ H Q q => ?_
  obtain ⟨ι, τ, M, hs, hr, q⟩ := q
  unfold ev at q
  refine ⟨ι, τ, M, hs, hr, q.bind fun x M1 ι1 H1 v _ l1 hr1 r1 q1 => ?_⟩
  split at q1
  · cases r1
    exact ⟨_, rfl, q1.here hr1 (.int _)⟩
  · exact q1.elim
theorem e_not (g : Good X G W cf ct lv) {a : Expr} {ma : E} {pos : Pos} (ha : PE X a (tE G W cf ma)) : PE X (.UnaryOp .Not a pos) (tE G W cf (.not ma)) := by
  refine (pe_notT ha).imp fun σ H Q q => ?_
  obtain ⟨ι, τ, M, hs, hr, q⟩ := q
  unfold ev at q
  refine ⟨ι, τ, M, hs, hr, q.bind fun x M1 ι1 H1 v _ l1 hr1 r1 q1 => ?_⟩
  cases e : truth M1 x with
  | none => rw [e] at q1; exact q1.elim
  | some k =>
    rw [e] at q1
    refine ⟨k, ?_, Post.here (M := M1) (show Post G W σ ι1 H1 (RV G) Q (.ok (.bl (!k)) M1) from q1) hr1 (.bl _)⟩
    rw [← g.gk]
    exact truth_ok hr1 r1 e
theorem t_not (g : Good X G W cf ct lv) {a : Expr} {ma : E} {pos : Pos} (ha : PT X a (tT G W cf ma)) : PT X (.UnaryOp .Not a pos) (tT G W cf (.not ma)) := by
  refine (pt_not ha).imp fun σ H Q q => ?_
  obtain ⟨ι, τ, M, hs, hr, q⟩ := q
  refine ⟨ι, τ, M, hs, hr, ?_⟩
  unfold ev at q
  cases h : ev cf ma τ M with
  | ok x M1 =>
    rw [h] at q
    simp only [Res.bind_ok] at q ⊢
    cases e : truth M1 x with
    | none => rw [e] at q; exact q.elim
    | some k =>
      rw [e] at q
      intro ι' H' b l hr' rr
      obtain rfl : b = k := rr
      exact q ι' H' (!b) l hr' rfl
  | exc x M1 => rw [h] at q; exact q
  | bad => rw [h] at q; exact q
theorem e_and (g : Good X G W cf ct lv) {a b : Expr} {rest : List Expr} {ma mb : E} {pos : Pos} (ha : PE X a (tE G W cf ma)) (hb : PE X (.BoolOp .And (b :: rest) pos) (tE G W cf mb)) : PE X (.BoolOp .And (a :: b :: rest) pos) (tE G W cf (.and ma mb)) := by
  refine (pe_andT ha hb).imp fun σ H Q q => ?_
  obtain ⟨ι, τ, M, hs, hr, q⟩ := q
  unfold ev at q
  refine ⟨ι, τ, M, hs, hr, q.bind fun x M1 ι1 H1 v _ l1 hr1 r1 q1 => ?_⟩
  cases e : truth M1 x with
  | none => rw [e] at q1; exact q1.elim
  | some k =>
    rw [e] at q1
    simp only [ofOpt, Res.bind_ok] at q1
    refine ⟨k, by rw [← g.gk]; exact truth_ok hr1 r1 e, ?_⟩
    cases k with
    | true => simp only [if_true] at q1 ⊢; exact ⟨ι1, τ, M1, hs.mono l1, hr1, q1⟩
    | false => simp only [Bool.false_eq_true, if_false] at q1 ⊢; exact q1.here hr1 r1
theorem e_or (g : Good X G W cf ct lv) {a b : Expr} {rest : List Expr} {ma mb : E} {pos : Pos} (ha : PE X a (tE G W cf ma)) (hb : PE X (.BoolOp .Or (b :: rest) pos) (tE G W cf mb)) : PE X (.BoolOp .Or (a :: b :: rest) pos) (tE G W cf (.or ma mb)) := by
  refine (pe_orT ha hb).imp fun σ H Q q => ?_
  obtain ⟨ι, τ, M, hs, hr, q⟩ := q
  unfold ev at q
  refine ⟨ι, τ, M, hs, hr, q.bind fun x M1 ι1 H1 v _ l1 hr1 r1 q1 => ?_⟩
  cases e : truth M1 x with
  | none => rw [e] at q1; exact q1.elim
  | some k =>
    rw [e] at q1
    simp only [ofOpt, Res.bind_ok] at q1
    refine ⟨k, by rw [← g.gk]; exact truth_ok hr1 r1 e, ?_⟩
    cases k with
    | false => simp only [Bool.false_eq_true, if_false] at q1 ⊢; exact ⟨ι1, τ, M1, hs.mono l1, hr1, q1⟩
    | true => simp only [if_true] at q1 ⊢; exact q1.here hr1 r1
theorem and_test {ma mb : E} {τ : St} {M : Store} : ((ev cf (.and ma mb) τ M).bind fun x M1 => ofOpt (truth M1 x) M1) =
    ((ev cf ma τ M).bind fun x M1 => ofOpt (truth M1 x) M1).bind fun k M2 => if k = true then (ev cf mb τ M2).bind fun x M1 => ofOpt (truth M1 x) M1 else .ok false M2 := by
  conv => lhs; unfold ev
  cases h : ev cf ma τ M with
  | ok x M1 =>
    simp only [Res.bind_ok]
    cases e : truth M1 x with
    | none => rfl
    | some k =>
      cases k with
      | true => rfl
      | false => simp [ofOpt, e]
  | exc x M1 => rfl
  | bad => rfl
theorem or_test {ma mb : E} {τ : St} {M : Store} : ((ev cf (.or ma mb) τ M).bind fun x M1 => ofOpt (truth M1 x) M1) =
    ((ev cf ma τ M).bind fun x M1 => ofOpt (truth M1 x) M1).bind fun k M2 => if k = true then .ok true M2 else (ev cf mb τ M2).bind fun x M1 => ofOpt (truth M1 x) M1 := by
  conv => lhs; unfold ev
  cases h : ev cf ma τ M with
  | ok x M1 =>
    simp only [Res.bind_ok]
    cases e : truth M1 x with
    | none => rfl
    | some k =>
      cases k with
      | false => rfl
      | true => simp [ofOpt, e]
  | exc x M1 => rfl
  | bad => rfl
theorem _root_.L2.PW.imp {X : Cx} {e : Expr} {t t' : TT} (h : PW X e t) (i : ∀ σ H Q, t' σ H Q → t σ H Q) : PW X e t' := ⟨fun wh ps s σ H Q J q => h.run wh ps s σ H Q J (i σ H Q q)⟩
theorem t_and (g : Good X G W cf ct lv) {a b : Expr} {rest : List Expr} {ma mb : E} {pos : Pos} (ha : PT X a (tT G W cf ma)) (hb : PW X (.BoolOp .And (b :: rest) pos) (tT G W cf mb)) : PW X (.BoolOp .And (a :: b :: rest) pos) (tT G W cf (.and ma mb)) := by
  refine (pw_and ha hb).imp fun σ H Q q => ?_
  obtain ⟨ι, τ, M, hs, hr, q⟩ := q
  rw [and_test] at q
  refine ⟨ι, τ, M, hs, hr, q.bind fun k M1 ι1 H1 c _ l1 hr1 r1 q1 => ?_⟩
  obtain rfl : c = k := r1
  cases c with
  | true => simp only [if_true] at q1 ⊢; exact ⟨ι1, τ, M1, hs.mono l1, hr1, q1⟩
  | false => simp only [Bool.false_eq_true, if_false] at q1 ⊢; exact q1.here hr1 rfl
theorem t_or (g : Good X G W cf ct lv) {a b : Expr} {rest : List Expr} {ma mb : E} {pos : Pos} (ha : PT X a (tT G W cf ma)) (hb : PW X (.BoolOp .Or (b :: rest) pos) (tT G W cf mb)) : PW X (.BoolOp .Or (a :: b :: rest) pos) (tT G W cf (.or ma mb)) := by
  refine (pw_or ha hb).imp fun σ H Q q => ?_
  obtain ⟨ι, τ, M, hs, hr, q⟩ := q
  rw [or_test] at q
  refine ⟨ι, τ, M, hs, hr, q.bind fun k M1 ι1 H1 c _ l1 hr1 r1 q1 => ?_⟩
  obtain rfl : c = k := r1
  cases c with
  | false => simp only [Bool.false_eq_true, if_false] at q1 ⊢; exact ⟨ι1, τ, M1, hs.mono l1, hr1, q1⟩
  | true => simp only [if_true] at q1 ⊢; exact q1.here hr1 rfl
theorem e_ite (g : Good X G W cf ct lv) {c a b : Expr} {mc ma mb : E} {pos : Pos} (hc : PT X c (tT G W cf mc)) (ha : PE X a (tE G W cf ma)) (hb : PE X b (tE G W cf mb)) : PE X (.IfExp c a b pos) (tE G W cf (.ite mc ma mb)) := by
  refine (pe_ifExp hc ha hb).imp fun σ H Q q => ?_
  obtain ⟨ι, τ, M, hs, hr, q⟩ := q
  have e : ev cf (.ite mc ma mb) τ M = ((ev cf mc τ M).bind fun x M1 => ofOpt (truth M1 x) M1).bind fun k M2 => if k = true then ev cf ma τ M2 else ev cf mb τ M2 := by
    conv => lhs; unfold ev
    cases h : ev cf mc τ M <;> rfl
  rw [e] at q
  refine ⟨ι, τ, M, hs, hr, q.bind fun k M1 ι1 H1 c _ l1 hr1 r1 q1 => ?_⟩
  obtain rfl : c = k := r1
  cases c with
  | false => simp only [Bool.false_eq_true, if_false] at q1 ⊢; exact ⟨ι1, τ, M1, hs.mono l1, hr1, q1⟩
  | true => simp only [if_true] at q1 ⊢; exact ⟨ι1, τ, M1, hs.mono l1, hr1, q1⟩

/-! ### lists of expressions, tuples, lists -/
theorem es_nil : PA X [] (tEs G W cf .nil) := by
  refine pa_nil.imp fun σ H Q q => ?_
  obtain ⟨ι, τ, M, hs, hr, q⟩ := q
  exact q.here hr .nil
theorem es_cons {e : Expr} {es : List Expr} {m : E} {ms : Es} (he : PE X e (tE G W cf m)) (hes : PA X es (tEs G W cf ms)) (hn : notStar e = true) : PA X (e :: es) (tEs G W cf (.cons m ms)) := by
  refine (pa_cons he hes (star_ok hn)).imp fun σ H Q q => ?_
  obtain ⟨ι, τ, M, hs, hr, q⟩ := q
  unfold evs at q
  refine ⟨ι, τ, M, hs, hr, q.bind fun x M1 ι1 H1 v _ l1 hr1 r1 q1 => ?_⟩
  refine ⟨ι1, τ, M1, hs.mono l1, hr1, q1.bind fun xs M2 ι2 H2 vs _ l2 hr2 r2 q2 => ?_⟩
  exact q2.here hr2 (.cons (r1.mono l2) r2)
theorem e_tup {es : List Expr} {ms : Es} {k : Nat} {pos : Pos} (h : PA X es (tEs G W cf ms)) : PE X (.Tuple es k pos) (tE G W cf (.tup ms)) := by
  refine (pe_tup h).imp fun σ H Q q => ?_
  obtain ⟨ι, τ, M, hs, hr, q⟩ := q
  unfold ev at q
  refine ⟨ι, τ, M, hs, hr, q.bind fun xs M1 ι1 H1 vs _ l1 hr1 r1 q1 => ?_⟩
  split at q1
  · rename_i c
    refine ⟨by rw [← r1.length, ← lim_eq]; exact c, fun p hp => ?_⟩
    exact q1 ι1 _ _ (Le.new hp) (hr1.new hp) (vr_tup_new hp r1)
  · exact q1.elim
theorem l_disp {es : List Expr} {ms : Es} {pos : Pos} (h : PA X es (tEs G W cf ms)) : PE X (.List es pos) (tL G W cf (.disp ms)) := by
  refine (pe_lst h).imp fun σ H Q q => ?_
  obtain ⟨ι, τ, M, hs, hr, q⟩ := q
  unfold evL at q
  refine ⟨ι, τ, M, hs, hr, Post.bindL q fun xs M1 ι1 H1 vs _ l1 hr1 r1 q1 => ?_⟩
  split at q1
  · rename_i c
    exact ⟨by rw [← r1.length, ← lim_eq]; exact c, fun p hp => q1.make hr1 r1 hp⟩
  · exact q1.elim
/-- a fresh list becomes ours -/
theorem Post.lay {σ : L2.St} {ι : List Addr} {H : Hp} {Q : VK} {r : Res (List Val)} (h : Post G W σ ι H (RV G) Q (r.bind fun xs M1 => .ok (.ref M1.length) (M1 ++ [.lst xs]))) : PostL G W σ ι H Q r := by
  cases r with
  | ok xs M1 =>
    rintro ι1 H1 v l hr ⟨D, vs, rfl, hD, rv, np, h0⟩
    have l2 : Le ι H (ι1 ++ [D]) H1 := by
      obtain ⟨t, e, ft⟩ := l.more
      refine ⟨⟨t ++ [D], by rw [e]; simp, fun a ha => ?_⟩, l.ext, l.dom, l.keep⟩
      rcases List.mem_append.mp ha with ha | ha
      · exact ft a ha
      · simp at ha; rw [ha]; exact h0
    refine h (ι1 ++ [D]) H1 (.ref D) l2 (hr.mine np ⟨vs, hD, rv.more⟩) (.ref ?_)
    rw [← hr.len]; simp
  | exc x M => exact h
  | bad => exact h
theorem e_lst {e : Expr} {l : L} (h : PE X e (tL G W cf l)) : PE X e (tE G W cf (.lst l)) := by
  refine h.imp fun σ H Q q => ?_
  obtain ⟨ι, τ, M, hs, hr, q⟩ := q
  unfold ev at q
  exact ⟨ι, τ, M, hs, hr, q.lay⟩

/-! ### items, slices -/
theorem place_eq (n : Nat) (i : Int) : place n i = ixN n i := rfl
theorem itemAt_ok {K : PySem.W.Frag} {ι : List Addr} {H : Hp} {xs : List Val} {vs : List V} {k : Int} {z : Val} (r : VRs K ι H xs vs) (e : itemAt xs k = some z) : ∃ w, atI vs k = some w ∧ VR K ι H z w := by
  unfold itemAt at e
  obtain ⟨j, h1, h2⟩ := Option.bind_eq_some_iff.mp e
  obtain ⟨w, h3, h4⟩ := r.get h2
  refine ⟨w, ?_, h4⟩
  unfold atI
  rw [place_eq, r.length] at h1
  rw [h1]; exact h3
theorem okS_one {s : List Nat} (h : okS s) {c : Nat} (hc : c ∈ s) : okS [c] := ⟨by rw [lim_val]; simp, fun d hd => by simp at hd; subst hd; exact h.2 _ hc⟩
theorem itemAt_mem {α : Type} {xs : List α} {k : Int} {z : α} (e : itemAt xs k = some z) : z ∈ xs := by
  unfold itemAt at e
  obtain ⟨j, h1, h2⟩ := Option.bind_eq_some_iff.mp e
  exact List.mem_of_getElem? h2
def rIxM (G : Gs) : R2 := fun x y H Q => ∃ ι M a b c, HR G ι M H ∧ VR G.K ι H a x ∧ VR G.K ι H b y ∧ ixV a b M = some c ∧ ∀ w, VR G.K ι H c w → Q w H
theorem ix_run (gk : G.K = X.K) (hu : X.A.units + 1 < cLine) : IxR X (rIxM G) := by
  obtain ⟨K, cl⟩ := G
  obtain rfl : K = X.K := gk
  rintro ve se ps s σ H x y v u Q I rx ry ⟨ι, M, a, b, c, hr, ra, rb, e, q⟩ hs
  unfold ixV at e
  split at e
  · cases ra with
    | str z hz =>
      cases rb
      obtain ⟨d, e1, rfl⟩ := Option.map_eq_some_iff.mp e
      refine ix_str ve se ps s σ H _ _ v u Q I rx ry ⟨_, _, d, rfl, rfl, hz.len, ?_, ?_⟩ hs
      · rw [toS_list]
        unfold itemAt at e1
        unfold atI
        exact e1
      · exact q _ (.str [d] (okS_one hz (itemAt_mem e1)))
  · cases ra with
    | tup hT r =>
      cases rb
      obtain ⟨w, e1, r1⟩ := itemAt_ok r e
      exact ix_tup ve se ps s σ H _ _ v u Q I rx ry ⟨_, _, _, w, rfl, rfl, hT, e1, q w r1⟩ hs
  · cases ra with
    | frz hT r =>
      cases rb
      obtain ⟨w, e1, r1⟩ := itemAt_ok r e
      exact ix_list ve se ps s σ H _ _ v u Q I rx ry ⟨_, _, _, w, rfl, rfl, hT.sq, e1, q w r1⟩ hs
  · cases ra with
    | ref ha =>
      split at e
      · rename_i em
        obtain ⟨vs, h1, h2⟩ := hr.sq_at em ha
        split at e
        · cases rb
          obtain ⟨w, e1, r1⟩ := itemAt_ok h2 e
          exact ix_list ve se ps s σ H _ _ v u Q I rx ry ⟨_, _, _, w, rfl, rfl, h1, e1, q w r1⟩ hs
        · cases e
      · rename_i em
        obtain ⟨ws, h1, h2⟩ := hr.dic_at em ha
        have hk : keyV b = true := by
          unfold dicGet at e
          obtain ⟨p, hp, _⟩ := Option.map_eq_some_iff.mp e
          have := List.find?_some hp
          exact keyE_V (x := p.1) this
        obtain ⟨k, hk1, rfl⟩ := key_ok rb hk
        obtain ⟨w, e1, r1⟩ := h2.get hk1 e
        refine ix_dict hu ve se ps s σ H _ _ v u Q I rx ry ⟨_, w, rfl, ?_, q w r1⟩ hs
        rw [← e1]
        exact DGet.k h1
      · cases e
  · cases e
theorem e_ix (g : Good X G W cf ct lv) {a b : Expr} {ma mb : E} {pos : Pos} (ha : PE X a (tE G W cf ma)) (hb : PE X b (tE G W cf mb)) (hn : notSlice b = true) : PE X (.Subscript a b pos) (tE G W cf (.ix ma mb)) := by
  refine (pe_ix (ix_run g.gk g.hu1) ha hb (notSlice_ok hn)).imp fun σ H Q q => ?_
  obtain ⟨ι, τ, M, hs, hr, q⟩ := q
  unfold ev at q
  refine ⟨ι, τ, M, hs, hr, q.bind fun x M1 ι1 H1 v _ l1 hr1 r1 q1 => ?_⟩
  refine ⟨ι1, τ, M1, hs.mono l1, hr1, q1.bind fun y M2 ι2 H2 w _ l2 hr2 r2 q2 => ?_⟩
  obtain ⟨c, e, q3⟩ := q2.opt
  exact ⟨ι2, M2, x, y, c, hr2, r1.mono l2, r2, e, fun w rw => q3.here hr2 rw⟩
end
end Mi
end MiRun2S

section MiRun3S
set_option Elab.async false
set_option linter.all false
set_option maxRecDepth 100000
namespace Mi
open PySem L2
section
variable {X : Cx} {G : Gs} {W : WX} {cf : Cf} {ct : Ct} {lv : Nat}
/-- a fresh list stays while something else runs -/
theorem Fresh.stay {H0 : Hp} {ι ι' : List Addr} {H H' : Hp} {xs : List Val} {v : V} (f : Fresh G H0 ι H xs v) (l : Le ι H ι' H') : ∃ D vs, v = .ref D ∧ H' D = some (.lst vs) ∧ VRs G.K ι' H' xs vs := by
  obtain ⟨D, vs, rfl, hD, r, n, _⟩ := f
  exact ⟨D, vs, rfl, l.keep D _ hD n, r.mono l⟩
theorem e_ixl (g : Good X G W cf ct lv) {a b : Expr} {l : L} {mb : E} {pos : Pos} (ha : PE X a (tL G W cf l)) (hb : PE X b (tE G W cf mb)) (hn : notSlice b = true) : PE X (.Subscript a b pos) (tE G W cf (.ixl l mb)) := by
  refine (pe_ix ix_list ha hb (notSlice_ok hn)).imp fun σ H Q q => ?_
  obtain ⟨ι, τ, M, hs, hr, q⟩ := q
  unfold ev at q
  refine ⟨ι, τ, M, hs, hr, PostL.bind q fun xs M1 ι1 H1 v _ l1 hr1 r1 q1 => ?_⟩
  refine ⟨ι1, τ, M1, hs.mono l1, hr1, q1.bind fun y M2 ι2 H2 w _ l2 hr2 r2 q2 => ?_⟩
  obtain ⟨D, vs, rfl, hD, rv⟩ := r1.stay l2
  obtain ⟨c, e, q3⟩ := q2.opt
  obtain ⟨k, e1, e2⟩ := Option.bind_eq_some_iff.mp e
  unfold asInt at e1
  split at e1
  · cases e1
    cases r2
    obtain ⟨u, e3, ru⟩ := itemAt_ok rv e2
    exact ⟨D, vs, _, u, rfl, rfl, SqL.of hD, e3, q3.here hr2 ru⟩
  · cases e1

/-! ### slices -/
theorem o_none : PO X none (tEo G W cf .none) := by
  refine ⟨fun ps s σ H Q J q => po_none.run ps s σ H Q J ?_⟩
  obtain ⟨ι, τ, M, hs, hr, q⟩ := q
  exact q.here hr rfl
theorem o_some {e : Expr} {m : E} (h : PE X e (tE G W cf m)) : PO X (some e) (tEo G W cf (.some m)) := by
  refine ⟨fun ps s σ H Q J q => (po_some h).run ps s σ H Q J ?_⟩
  obtain ⟨ι, τ, M, hs, hr, q⟩ := q
  unfold evo at q
  refine ⟨ι, τ, M, hs, hr, q.bind fun x M1 ι1 H1 v _ l1 hr1 r1 q1 => ?_⟩
  split at q1
  · cases r1
    exact ⟨_, rfl, q1.here hr1 rfl⟩
  · exact q1.elim
theorem cutS_eq (s : List Nat) (lo hi : Option Int) : cutS (toS s) lo hi = toS (Mi.cut s lo hi) := by
  show Str.mk (((toS s).cps.toList.drop _).take _).toArray = _
  rw [toS_list]
  unfold toS Mi.cut
  have e : ∀ d o, HT.sIx (toS s).length d o = bound s.length d o := fun d o => by rw [toS_length]; cases o <;> rfl
  unfold toS at e
  rw [e, e]
  have e2 : (Str.mk s.toArray).length = s.length := by simp [Str.length]
  rw [e2]
theorem cut_sub {α : Type} {xs : List α} {lo hi : Option Int} : (Mi.cut xs lo hi).length ≤ xs.length ∧ ∀ c ∈ Mi.cut xs lo hi, c ∈ xs := by
  unfold Mi.cut
  refine ⟨by rw [List.length_take, List.length_drop]; omega, fun c hc => List.mem_of_mem_drop (List.mem_of_mem_take hc)⟩
theorem cut_whole {α : Type} {xs : List α} {lo hi : Option Int} (h1 : bound xs.length 0 lo = 0) (h2 : bound xs.length xs.length hi = xs.length) : Mi.cut xs lo hi = xs := by
  unfold Mi.cut
  rw [h1, h2]
  simp
theorem okS_cut {s : List Nat} (h : okS s) (lo hi : Option Int) : okS (Mi.cut s lo hi) := ⟨Nat.le_trans cut_sub.1 h.1, fun c hc => h.2 c (cut_sub.2 c hc)⟩
def rSlM (G : Gs) (W : WX) : V → Option Int → Option Int → Hp → VK → Prop := fun x lo hi H Q => ∃ σ ι M a, HR G ι M H ∧ VR G.K ι H a x ∧ Post G W σ ι H (RV G) Q (slV a lo hi M)
theorem sIx_eq (n d : Nat) (o : Option Int) : HT.sIx n d o = bound n d o := by cases o <;> rfl
theorem lay_post {σ : L2.St} {ι : List Addr} {H : Hp} {M : Store} {Q : VK} {xs : List Val} {vs : List V} (q : Post G W σ ι H (RV G) Q (.ok (.ref M.length) (M ++ [.lst xs]))) (hr : HR G ι M H) (r : VRs G.K ι H xs vs) {D : Addr} (hD : H D = none) : Q (.ref D) (upd H D (.lst vs)) := by
  have h : PostL G W σ ι H Q (.ok xs M) := Post.lay (r := .ok xs M) q
  exact h.make hr r hD
theorem sl_run (gk : G.K = X.K) : SlR X (rSlM G W) := by
  obtain ⟨K, cl⟩ := G
  obtain rfl : K = X.K := gk
  rintro ps s σ' H x v vl vu lo hi sl Q I rx hs pl pu ⟨σ, ι, M, a, hr, ra, q⟩
  unfold slV at q
  split at q
  · cases ra with
    | str z hz =>
      refine sl_str ps s σ' H _ v vl vu lo hi sl Q I rx hs pl pu ⟨_, rfl, hz.len, ?_⟩
      rw [cutS_eq]
      exact q.here hr (.str _ (okS_cut hz lo hi))
  · cases ra with
    | tup hT r =>
      refine sl_tupA ps s σ' H _ v vl vu lo hi sl Q I rx hs pl pu ⟨_, _, rfl, hT, fun e => ?_, fun _ p hp => ?_⟩
      · rw [sIx_eq, sIx_eq, ← r.length] at e
        rw [cut_whole e.1 e.2] at q
        exact q.here hr (.tup hT r)
      · exact q ι _ _ (Le.new hp) (hr.new hp) (vr_tup_new hp (r.cutv lo hi))
  · cases ra with
    | frz hT r =>
      exact sl_list ps s σ' H _ v vl vu lo hi sl Q I rx hs pl pu ⟨_, _, rfl, hT.sq, fun p hp => lay_post q hr (r.cutv lo hi) hp⟩
  · cases ra with
    | ref ha =>
      split at q
      · rename_i em
        obtain ⟨vs, h1, h2⟩ := hr.sq_at em ha
        exact sl_list ps s σ' H _ v vl vu lo hi sl Q I rx hs pl pu ⟨_, _, rfl, h1, fun p hp => lay_post q hr (h2.cutv lo hi) hp⟩
      · exact q.elim
  · exact q.elim
theorem e_sl (g : Good X G W cf ct lv) {a : Expr} {lo hi : Option Expr} {ma : E} {ml mh : Eo} {p2 pos : Pos} (ha : PE X a (tE G W cf ma)) (hl : PO X lo (tEo G W cf ml)) (hh : PO X hi (tEo G W cf mh)) :
    PE X (.Subscript a (.Slice lo hi none p2) pos) (tE G W cf (.sl ma ml mh)) := by
  refine (pe_slice (sl_run (W := W) g.gk) ha hl hh).imp fun σ H Q q => ?_
  obtain ⟨ι, τ, M, hs, hr, q⟩ := q
  unfold ev at q
  refine ⟨ι, τ, M, hs, hr, q.bind fun x M1 ι1 H1 v _ l1 hr1 r1 q1 => ?_⟩
  refine ⟨ι1, τ, M1, hs.mono l1, hr1, q1.bind fun y M2 ι2 H2 w _ l2 hr2 r2 q2 => ?_⟩
  obtain rfl : w = y := r2
  refine ⟨ι2, τ, M2, (hs.mono l1).mono l2, hr2, q2.bind fun z M3 ι3 H3 u _ l3 hr3 r3 q3 => ?_⟩
  obtain rfl : u = z := r3
  exact ⟨σ, ι3, M3, x, hr3, (r1.mono l2).mono l3, q3⟩

/-! ### isinstance -/
def kinds : List String := ["NoneType", "bool", "int", "str", "tuple", "list", "dict"]
def tyn : Cl → String
  | .int => "int" | .bool => "bool" | .str => "str" | .tuple => "tuple" | .list => "list" | .dict => "dict" | .own _ => ""
def clv (G : Gs) : Cl → V
  | .own c => .ref (G.cls c)
  | c => .ty (tyn c)
theorem kits : ∀ t ∈ kinds, ∀ c ∈ ["int", "bool", "str", "tuple", "list", "dict"], kitB t c = some (t == c || (t == "bool" && c == "int")) := by decide +kernel
def okind : Option Obj → String
  | some (.lst _) => "list"
  | some (.dic _) => "dict"
  | _ => ""
def vkind (M : Store) : Val → String
  | .non => "NoneType" | .bl _ => "bool" | .int _ => "int" | .str _ => "str" | .tup _ => "tuple" | .frz _ => "list"
  | .ref n => okind M[n]?
  | .fn _ => ""
theorem ty_of {ι : List Addr} {M : Store} {H : Hp} {a : Val} {v : V} (hr : HR G ι M H) (r : VR G.K ι H a v) (h : vkind M a ≠ "") : TyX G.K H v (.type (vkind M a)) := by
  cases r with
  | fn x => exact absurd rfl h
  | non => exact .base .non
  | bl b => exact .base (.bl b)
  | int i => exact .base (.int i)
  | str s _ => exact .base (.str _)
  | tup hT r =>
    rcases hT with (hT | ⟨o, hT⟩) | ⟨o, its, n, hk, hc, _⟩
    · exact .base (.tup hT)
    · exact .fTuple hT
    · exact .kTuple hk hc
  | frz hT r =>
    rcases hT with ⟨o, hT⟩ | ⟨o, its, n, hk, hc, _⟩
    · exact .base (.frz hT)
    · exact .kList hk hc
  | @ref n p e =>
    simp only [vkind] at h ⊢
    cases em : M[n]? with
    | none => rw [em] at h; exact absurd rfl h
    | some o =>
      rw [em] at h
      cases o with
      | lst xs =>
        obtain ⟨vs, h1, h2⟩ := hr.obj n _ p em e
        exact .base (.lst h1)
      | dic ks =>
        obtain ⟨ws, h1, h2⟩ := hr.obj n _ p em e
        exact .base (.dK h1)
      | exv c => exact absurd rfl h
def rIsiM (G : Gs) (c : Cl) : List V → Hp → VK → Prop := fun xs H Q => ∃ ι M a v k, xs = [v, clv G c] ∧ HR G ι M H ∧ VR G.K ι H a v ∧ isOf c a M = some k ∧ Q (.bl k) H
theorem tyn_mem {c : Cl} (h : ∀ k, c ≠ .own k) : tyn c ∈ ["int", "bool", "str", "tuple", "list", "dict"] ∧ clv G c = .ty (tyn c) := by
  cases c with
  | own k => exact absurd rfl (h k)
  | _ => exact ⟨by simp [tyn], rfl⟩
theorem isi_run (g : Good X G W cf ct lv) (c : Cl) : CallR X (.builtin "isinstance") (rIsiM G c) := by
  have gk := g.gk
  have gx := g.exs
  obtain ⟨K, cl⟩ := G
  obtain rfl : K = X.K := gk
  rintro ps s σ H xs us Q I r ⟨ι, M, a, v, k, rfl, hr, ra, e, q⟩
  by_cases ho : ∃ m, c = .own m
  · obtain ⟨m, rfl⟩ := ho
    simp [isOf] at e
  · have hno : ∀ m, c ≠ .own m := fun m z => ho ⟨m, z⟩
    obtain ⟨hm, hcv⟩ := tyn_mem (G := ⟨X.K, cl⟩) hno
    by_cases hx : ∃ n m, a = .ref n ∧ M[n]? = some (.exv m)
    · obtain ⟨n, m, rfl, em⟩ := hx
      have ek : k = false := by
        simp only [isOf, em] at e
        cases c <;> simp_all
      subst ek
      cases ra with
      | @ref _ p ep =>
        have hp := hr.obj n _ p em ep
        obtain ⟨u1, u2, rfl, r1, r2⟩ := vals2 r
        cases r1
        rw [hcv] at r2
        cases r2
        obtain ⟨tt, hp, _⟩ := hp
        obtain ⟨⟨oe, vs, hget, hz, hv, _⟩, _, _⟩ := I.hok p _ (show H p = some (ExA (.ref (cl m)) tt p) from hp)
        have J : PySem.W.InstAt s.heap p oe (cl m) none := by
          obtain ⟨oc, od, oda, osl⟩ := oe
          obtain ⟨h1, h2⟩ := hz
          dsimp only at h1 h2 hv
          subst h1 h2 hv
          exact ⟨hget, rfl, rfl, trivial⟩
        obtain ⟨C, hC⟩ := gx m
        exact PySem.W.kia_one (PySem.W.handS_kitx_exc C.hg C.hk C.hs C.hd C.ha C.hn C.ht C.hm) I.kIn J (hC _ hm) (fun z => nomatch z) fun tk => ⟨.bl false, H, I.kept (t' := tk) fun _ _ z => z, rfl, q⟩
    · have hk : vkind M a ∈ kinds ∧ k = (vkind M a == tyn c || (vkind M a == "bool" && tyn c == "int")) := by
        cases a with
        | ref n =>
          simp only [isOf, vkind] at e ⊢
          cases em : M[n]? with
          | none => rw [em] at e; cases c <;> simp at e
          | some o =>
            rw [em] at e
            cases o with
            | lst xs => cases c <;> simp_all [kinds, tyn, okind]
            | dic xs => cases c <;> simp_all [kinds, tyn, okind]
            | exv m => exact absurd ⟨n, m, rfl, em⟩ hx
        | _ => cases c <;> simp_all [isOf, vkind, kinds, tyn]
      have hne : vkind M a ≠ "" := fun z => by
        have := hk.1
        rw [z] at this
        simp [kinds] at this
      refine call_isi ps s σ H _ us Q I r ⟨v, clv ⟨X.K, cl⟩ c, .type (vkind M a), .type (tyn c), k, rfl, ?_, ty_of hr ra hne, ?_, q⟩
      · rw [hcv]; exact .ty _
      · rw [hk.2]
        exact kit_ty (kits _ hk.1 _ hm)
end
end Mi
end MiRun3S

section MiRun4S
set_option Elab.async false
set_option linter.all false
set_option maxRecDepth 100000
namespace Mi
open PySem L2
section
variable {X : Cx} {G : Gs} {W : WX} {cf : Cf} {ct : Ct} {lv : Nat}
/-- a class's name as an argument -/
def clName : Cl → Str
  | .int => "int" | .bool => "bool" | .str => "str" | .tuple => "tuple" | .list => "list" | .dict => "dict" | .own _ => ""
theorem clBoot {c : Cl} (h : ∀ k, c ≠ .own k) : bootBuiltins (clName c) = some (.type (tyn c)) ∧ clName c ≠ "__name__" ∧ (clName c == ("__debug__" : Str)) = false := by
  cases c with
  | own k => exact absurd rfl (h k)
  | int => exact ⟨by decide +kernel, by decide +kernel, by decide +kernel⟩
  | bool => exact ⟨by decide +kernel, by decide +kernel, by decide +kernel⟩
  | str => exact ⟨by decide +kernel, by decide +kernel, by decide +kernel⟩
  | tuple => exact ⟨by decide +kernel, by decide +kernel, by decide +kernel⟩
  | list => exact ⟨by decide +kernel, by decide +kernel, by decide +kernel⟩
  | dict => exact ⟨by decide +kernel, by decide +kernel, by decide +kernel⟩
theorem e_isi (g : Good X G W cf ct lv) {a : Expr} {ma : E} {c : Cl} {p p2 pos : Pos} (ha : PE X a (tE G W cf ma)) (hn : notStar a = true) (hno : ∀ k, c ≠ .own k) (hg : glB ct.sc "isinstance" = true) (hb : ct.gl "isinstance" = some .blt)
    (hg2 : glB ct.sc (clName c) = true) (hb2 : ct.gl (clName c) = some .blt) : PE X (.Call (.Name "isinstance" p) [a, .Name (clName c) p2] [] pos) (tE G W cf (.isi ma c)) := by
  obtain ⟨h1, h2, h3⟩ := clBoot hno
  have hc := tyn_mem (G := G) hno
  have hT : PE X (.Name (clName c) p2) (tC (clv G c)) := by
    rw [hc.2]
    exact pe_bltn (glB_ok g.sc hg2) (g.blt _ hb2) h1 rfl h2 h3
  refine (pe_callB (isi_run g c) (glB_ok g.sc hg) (g.blt _ hb) PyProof.Rows.boot_isinstance (pa_cons ha (pa_cons hT pa_nil (star_ok rfl)) (star_ok hn)) (by decide) (by decide) (star_ok hn) (stars_ok (es := [.Name (clName c) p2]) rfl)).imp fun σ H Q q => ?_
  obtain ⟨ι, τ, M, hs, hr, q⟩ := q
  unfold ev at q
  refine ⟨ι, τ, M, hs, hr, q.bind fun x M1 ι1 H1 v _ l1 hr1 r1 q1 => ?_⟩
  obtain ⟨z, e, q2⟩ := q1.opt
  obtain ⟨k, e2, rfl⟩ := Option.map_eq_some_iff.mp e
  exact ⟨ι1, M1, x, v, k, rfl, hr1, r1, e2, q2.here hr1 (.bl k)⟩

/-! ### calls -/
theorem postC_of {σ : L2.St} {ι : List Addr} {H : Hp} {Q : VK} {r : Res Val} (h : Post G W σ ι H (RV G) Q r) : PostC G ι H Q (WE W σ) r := by
  cases r with
  | ok a M => exact h
  | exc x M => exact h
  | bad => exact h
theorem call_read {g k : Nat} {σ : L2.St} {H : Hp} {Q : VK} {ms : Es} (hk : ∀ τ M xs M1, evs cf ms τ M = .ok xs M1 → xs.length = k) (q : tE G W cf (.call g ms) σ H Q) : tCallS (spI G cf.call g k) (WE W) (tEs G W cf ms) σ H Q := by
  obtain ⟨ι, τ, M, hs, hr, q⟩ := q
  unfold ev at q
  refine ⟨ι, τ, M, hs, hr, q.bind fun xs M1 ι1 H1 vs e l1 hr1 r1 q1 => ?_⟩
  exact ⟨ι1, M1, xs, hk _ _ _ _ e, r1, hr1, postC_of q1⟩
def Es.len : Es → Nat
  | .nil => 0
  | .cons _ es => es.len + 1
theorem evs_len : ∀ {ms : Es} {τ : St} {M M1 : Store} {xs : List Val}, evs cf ms τ M = .ok xs M1 → xs.length = ms.len
  | .nil, _, _, _, _, h => by unfold evs at h; cases h; rfl
  | .cons e es, τ, M, M1, xs, h => by
    unfold evs at h
    cases h1 : ev cf e τ M with
    | ok x M2 =>
      rw [h1] at h
      simp only [Res.bind_ok] at h
      cases h2 : evs cf es τ M2 with
      | ok ys M3 =>
        rw [h2] at h
        simp only [Res.bind_ok] at h
        cases h
        simp [Es.len, evs_len h2]
      | exc => rw [h2] at h; cases h
      | bad => rw [h2] at h; cases h
    | exc => rw [h1] at h; cases h
    | bad => rw [h1] at h; cases h
theorem e_call (g : Good X G W cf ct lv) {x : Str} {i k : Nat} {e : Expr} {es : List Expr} {ms : Es} {p pos : Pos} (hx : ct.gl x = some (.fn i k)) (hg : glB ct.sc x = true) (ha : PA X (e :: es) (tEs G W cf ms)) (hl : ms.len = k) (hst : (e :: es).all notStar = true)
    (hd : (x == ("__debug__" : Str)) = false) : PE X (.Call (.Name x p) (e :: es) [] pos) (tE G W cf (.call i ms)) := by
  obtain ⟨f, fd, ps, hm, hk, hb, F⟩ := (g.fn x i k hx).ex
  have h' : notStar e = true ∧ es.all notStar = true := by simpa using hst
  refine (callG F g.gds g.room (glB_ok g.sc hg) hm hk hb (fun σ => passAt g.takes σ) ha hd (star_ok h'.1) (stars_ok h'.2)).imp fun σ H Q q => ?_
  exact call_read (fun _ _ _ _ h => (evs_len h).trans hl) q
theorem e_call0 (g : Good X G W cf ct lv) {x : Str} {i : Nat} {p pos : Pos} (hx : ct.gl x = some (.fn i 0)) (hg : glB ct.sc x = true) (hd : (x == ("__debug__" : Str)) = false) : PE X (.Call (.Name x p) [] [] pos) (tE G W cf (.call i .nil)) := by
  obtain ⟨f, fd, ps, hm, hk, hb, F⟩ := (g.fn x i 0 hx).ex
  refine (callG0 F g.gds g.room (glB_ok g.sc hg) hm hk hb (fun σ => passAt g.takes σ) hd).imp fun σ H Q q => ?_
  have q2 := call_read (k := 0) (fun _ _ _ _ h => (evs_len h).trans rfl) q
  obtain ⟨ι, τ, M, hs, hr, q3⟩ := q2
  exact q3.here hr .nil

/-! ### built-in functions of a value -/
def rBi (G : Gs) (W : WX) (cf : Cf) (b : Bi) : List V → Hp → VK → Prop := fun xs H Q => ∃ σ ι M a v, xs = [v] ∧ HR G ι M H ∧ VR G.K ι H a v ∧ Post G W σ ι H (RV G) Q (bi1 cf b a M)
def bivn : Bi → Str
  | .len => "len" | .int => "int" | .tuple => "tuple" | .repr => "repr" | .abs => "abs"
def biv : Bi → Value
  | .len => .builtin "len" | .int => .type "int" | .tuple => .type "tuple" | .repr => .builtin "repr" | .abs => .builtin "abs"
theorem bi_run (g : Good X G W cf ct lv) (b : Bi) (ho : ∀ v M z, cf.repr v M = some z → okS z) : CallR X (biv b) (rBi G W cf b) := by
  have gk := g.gk
  rintro ps s σ' H xs us Q I r ⟨σ, ι, M, a, v, rfl, hr, ra, q⟩
  cases b with
  | len =>
    unfold bi1 at q
    obtain ⟨z, e, q2⟩ := q.opt
    obtain ⟨n, e2, rfl⟩ := Option.map_eq_some_iff.mp e
    refine call_len ps s σ' H _ us Q I r ⟨v, n, rfl, ?_, q2.here hr (.int _)⟩
    rw [← gk]
    exact len_ok hr ra e2
  | int =>
    unfold bi1 at q
    simp only at q
    split at q
    · cases ra
      exact call_int1 ps s σ' H _ us Q I r (.inl ⟨_, rfl, q.here hr (.int _)⟩)
    · cases ra
      exact call_int1 ps s σ' H _ us Q I r (.inr ⟨_, rfl, q.here hr (.int _)⟩)
    · exact q.elim
  | tuple =>
    unfold bi1 at q
    simp only at q
    split at q
    · cases ra with
      | tup hT rr => exact call_tuple_of ps s σ' H _ us Q I r ⟨_, _, rfl, .inr ⟨by rw [← gk]; exact hT, q.here hr (.tup hT rr)⟩⟩
    · cases ra with
      | ref ha =>
        split at q
        · rename_i em
          obtain ⟨vs, h1, h2⟩ := hr.sq_at em ha
          exact call_tuple_of ps s σ' H _ us Q I r ⟨_, _, rfl, .inl ⟨by rw [← gk]; exact h1, fun p hp => q ι _ _ (Le.new hp) (hr.new hp) (vr_tup_new hp h2)⟩⟩
        · exact q.elim
    · exact q.elim
  | abs =>
    unfold bi1 at q
    simp only at q
    split at q
    · cases ra
      exact call_abs ps s σ' H _ us Q I r ⟨_, rfl, q.here hr (.int _)⟩
    · exact q.elim
  | repr =>
    unfold bi1 at q
    obtain ⟨z, e, q2⟩ := q.opt
    obtain ⟨n, e2, rfl⟩ := Option.map_eq_some_iff.mp e
    exact g.rep X gk.symm g.gds g.room g.calm ps s σ' H _ us Q I r ⟨ι, M, a, v, n, rfl, hr, ra, e2, ho _ _ _ e2, q2.here hr (.str _ (ho _ _ _ e2))⟩
theorem e_bi (g : Good X G W cf ct lv) {a : Expr} {ma : E} {b : Bi} {p pos : Pos} (ho : ∀ v M z, cf.repr v M = some z → okS z) (ha : PE X a (tE G W cf ma)) (hn : notStar a = true) (hg : glB ct.sc (bivn b) = true) (hb : ct.gl (bivn b) = some .blt) :
    PE X (.Call (.Name (bivn b) p) [a] [] pos) (tE G W cf (.bi b ma)) := by
  have key : PE X (.Call (.Name (bivn b) p) [a] [] pos) (tCB (rBi G W cf b) (tCons (tE G W cf ma) tNil)) := by
    have R := bi_run (W := W) g b ho
    cases b with
    | len => exact pe_callB R (glB_ok g.sc hg) (g.blt _ hb) PySem.boot_len (pa_cons ha pa_nil (star_ok hn)) (by decide +kernel) (by decide +kernel) (star_ok hn) (stars_ok (es := []) rfl)
    | int => exact pe_callTy R (glB_ok g.sc hg) (g.blt _ hb) PyProof.Rows.boot_int (pa_cons ha pa_nil (star_ok hn)) (by decide +kernel) (by decide +kernel) (star_ok hn) (stars_ok (es := []) rfl)
    | tuple => exact pe_callTy R (glB_ok g.sc hg) (g.blt _ hb) PyProof.Rows.boot_tuple (pa_cons ha pa_nil (star_ok hn)) (by decide +kernel) (by decide +kernel) (star_ok hn) (stars_ok (es := []) rfl)
    | abs => exact pe_callB R (glB_ok g.sc hg) (g.blt _ hb) PyProof.Rows.boot_abs (pa_cons ha pa_nil (star_ok hn)) (by decide +kernel) (by decide +kernel) (star_ok hn) (stars_ok (es := []) rfl)
    | repr => exact pe_callB R (glB_ok g.sc hg) (g.blt _ hb) PyProof.Rows.boot_repr (pa_cons ha pa_nil (star_ok hn)) (by decide +kernel) (by decide +kernel) (star_ok hn) (stars_ok (es := []) rfl)
  refine key.imp fun σ H Q q => ?_
  obtain ⟨ι, τ, M, hs, hr, q⟩ := q
  unfold ev at q
  refine ⟨ι, τ, M, hs, hr, q.bind fun x M1 ι1 H1 v _ l1 hr1 r1 q1 => ?_⟩
  exact ⟨σ, ι1, M1, x, v, rfl, hr1, r1, q1⟩

/-! ### built-in functions of a fresh list -/
theorem bools_ok {ι : List Addr} {H : Hp} : ∀ {xs : List Val} {vs : List V} {bs : List Bool}, VRs G.K ι H xs vs → boolsOf xs = some bs → vs = bs.map V.bl
  | [], _, _, r, e => by cases r; cases e; rfl
  | x :: xs, _, bs, r, e => by
    cases r with
    | cons r1 r2 =>
      cases x with
      | bl b =>
        simp only [boolsOf] at e
        obtain ⟨cs, e1, rfl⟩ := Option.map_eq_some_iff.mp e
        cases r1
        rw [bools_ok r2 e1]; rfl
      | _ => simp [boolsOf] at e
theorem ints_ok {ι : List Addr} {H : Hp} : ∀ {xs : List Val} {vs : List V} {bs : List Int}, VRs G.K ι H xs vs → intsOf xs = some bs → vs = bs.map V.int
  | [], _, _, r, e => by cases r; cases e; rfl
  | x :: xs, _, bs, r, e => by
    cases r with
    | cons r1 r2 =>
      cases x with
      | int b =>
        simp only [intsOf] at e
        obtain ⟨cs, e1, rfl⟩ := Option.map_eq_some_iff.mp e
        cases r1
        rw [ints_ok r2 e1]; rfl
      | _ => simp [intsOf] at e
theorem strs_ok {ι : List Addr} {H : Hp} : ∀ {xs : List Val} {vs : List V} {zs : List (List Nat)}, VRs G.K ι H xs vs → strsOf xs = some zs → vs = (zs.map toS).map V.str ∧ ∀ z ∈ zs, okS z
  | [], _, _, r, e => by cases r; cases e; exact ⟨rfl, fun _ h => by simp at h⟩
  | x :: xs, _, bs, r, e => by
    cases r with
    | cons r1 r2 =>
      cases x with
      | str b =>
        simp only [strsOf] at e
        obtain ⟨cs, e1, rfl⟩ := Option.map_eq_some_iff.mp e
        obtain ⟨h1, h2⟩ := strs_ok r2 e1
        cases r1 with
        | str _ hb =>
          refine ⟨by rw [h1]; rfl, fun z hz => ?_⟩
          rcases List.mem_cons.mp hz with rfl | hz
          · exact hb
          · exact h2 z hz
      | _ => simp [strsOf] at e
def rBil (G : Gs) (W : WX) (b : Bil) : List V → Hp → VK → Prop := fun us H Q => ∃ σ ι M H0 xs v, us = [v] ∧ HR G ι M H ∧ Fresh G H0 ι H xs v ∧ Post G W σ ι H (RV G) Q (bil1 b xs M)
def bilvn : Bil → Str
  | .all => "all" | .any => "any" | .sum => "sum" | .tuple => "tuple"
def bilv : Bil → Value
  | .all => .builtin "all" | .any => .builtin "any" | .sum => .builtin "sum" | .tuple => .type "tuple"
theorem bil_run (g : Good X G W cf ct lv) (b : Bil) : CallR X (bilv b) (rBil G W b) := by
  rintro ps s σ' H us ws Q I r ⟨σ, ι, M, H0, xs, v, rfl, hr, ⟨D, vs, rfl, hD, rv, np, h0⟩, q⟩
  cases b with
  | all =>
    unfold bil1 at q
    obtain ⟨z, e, q2⟩ := q.opt
    obtain ⟨n, e2, rfl⟩ := Option.map_eq_some_iff.mp e
    have hv := bools_ok rv e2
    subst hv
    exact cr_all g.calm ps s σ' H _ ws Q I r ⟨D, n, rfl, SqL.of hD, q2.here hr (.bl _)⟩
  | any =>
    unfold bil1 at q
    obtain ⟨z, e, q2⟩ := q.opt
    obtain ⟨n, e2, rfl⟩ := Option.map_eq_some_iff.mp e
    have hv := bools_ok rv e2
    subst hv
    exact cr_any g.calm ps s σ' H _ ws Q I r ⟨D, n, rfl, SqL.of hD, q2.here hr (.bl _)⟩
  | sum =>
    unfold bil1 at q
    obtain ⟨z, e, q2⟩ := q.opt
    obtain ⟨n, e2, rfl⟩ := Option.map_eq_some_iff.mp e
    have hv := ints_ok rv e2
    subst hv
    exact cr_sum g.calm ps s σ' H _ ws Q I r ⟨D, n, rfl, SqL.of hD, q2.here hr (.int _)⟩
  | tuple =>
    unfold bil1 at q
    exact call_tuple_of ps s σ' H _ ws Q I r ⟨D, vs, rfl, .inl ⟨SqL.of hD, fun p hp => q ι _ _ (Le.new hp) (hr.new hp) (vr_tup_new hp rv)⟩⟩
theorem e_bil (g : Good X G W cf ct lv) {a : Expr} {l : L} {b : Bil} {p pos : Pos} (ha : PE X a (tL G W cf l)) (hn : notStar a = true) (hg : glB ct.sc (bilvn b) = true) (hb : ct.gl (bilvn b) = some .blt) :
    PE X (.Call (.Name (bilvn b) p) [a] [] pos) (tE G W cf (.bil b l)) := by
  have key : PE X (.Call (.Name (bilvn b) p) [a] [] pos) (tCB (rBil G W b) (tCons (tL G W cf l) tNil)) := by
    have R := bil_run (W := W) g b
    cases b with
    | all => exact pe_callB R (glB_ok g.sc hg) (g.blt _ hb) PyProof.Rows.boot_all (pa_cons ha pa_nil (star_ok hn)) (by decide +kernel) (by decide +kernel) (star_ok hn) (stars_ok (es := []) rfl)
    | any => exact pe_callB R (glB_ok g.sc hg) (g.blt _ hb) PyProof.Rows.boot_any (pa_cons ha pa_nil (star_ok hn)) (by decide +kernel) (by decide +kernel) (star_ok hn) (stars_ok (es := []) rfl)
    | sum => exact pe_callB R (glB_ok g.sc hg) (g.blt _ hb) PyProof.Rows.boot_sum (pa_cons ha pa_nil (star_ok hn)) (by decide +kernel) (by decide +kernel) (star_ok hn) (stars_ok (es := []) rfl)
    | tuple => exact pe_callTy R (glB_ok g.sc hg) (g.blt _ hb) PyProof.Rows.boot_tuple (pa_cons ha pa_nil (star_ok hn)) (by decide +kernel) (by decide +kernel) (star_ok hn) (stars_ok (es := []) rfl)
  refine key.imp fun σ H Q q => ?_
  obtain ⟨ι, τ, M, hs, hr, q⟩ := q
  unfold ev at q
  refine ⟨ι, τ, M, hs, hr, PostL.bind q fun xs M1 ι1 H1 v _ l1 hr1 r1 q1 => ?_⟩
  exact ⟨σ, ι1, M1, H, xs, v, rfl, hr1, r1, q1⟩
end
end Mi
end MiRun4S

section MiRun5S
set_option Elab.async false
set_option linter.all false
set_option maxRecDepth 100000
namespace Mi
open PySem L2
theorem printable : ∀ c < 128, Unicode.isPrintable c = decide (32 ≤ c ∧ c ≤ 126) := by decide +kernel
theorem upperOne : ∀ c < 128, Unicode.upperOf c = [up c] := by decide +kernel
theorem up_lt : ∀ c < 128, up c < 128 := by decide +kernel
theorem isascii_toS {s : List Nat} (h : okS s) : Txt.isascii (toS s) = true := by
  unfold Txt.isascii toS
  rw [List.all_toArray, List.all_eq_true]
  exact fun c hc => decide_eq_true (h.2 c hc)
theorem isprintable_toS {s : List Nat} (h : okS s) : Txt.isprintable (toS s) = s.all fun c => decide (32 ≤ c ∧ c ≤ 126) := by
  unfold Txt.isprintable toS
  rw [List.all_toArray]
  have k : ∀ l : List Nat, (∀ c ∈ l, c < 128) → l.all Unicode.isPrintable = l.all fun c => decide (32 ≤ c ∧ c ≤ 126) := by
    intro l
    induction l with
    | nil => intro _; rfl
    | cons c l ih =>
      intro hl
      rw [List.all_cons, List.all_cons, printable c (hl c List.mem_cons_self), ih fun d hd => hl d (List.mem_cons_of_mem _ hd)]
  exact k s h.2
theorem upper_toS {s : List Nat} (h : okS s) : Txt.upper (toS s) = toS (s.map up) := by
  unfold Txt.upper toS placed
  congr 1
  have e : (s.toArray.mapIdx fun i c => (Unicode.upperOf c).toArray) = (s.map fun c => #[up c]).toArray := by
    apply Array.ext
    · simp
    · intro i h1 h2
      simp at h1
      simp [upperOne _ (h.2 s[i] (List.getElem_mem h1))]
  rw [show (Str.mk s.toArray).cps = s.toArray from rfl, e]
  have k : ∀ l : List Nat, (l.map fun c => #[up c]).toArray.flatten = (l.map up).toArray := by
    intro l
    induction l with
    | nil => rfl
    | cons c l ih =>
      rw [← Array.toList_inj] at ih ⊢
      simp only [Array.toList_flatten, List.map_cons, List.flatten_cons] at ih ⊢
      rw [ih]; rfl
  exact k s
theorem okS_up {s : List Nat} (h : okS s) : okS (s.map up) := ⟨by rw [List.length_map]; exact h.1, fun c hc => by
  obtain ⟨d, hd, rfl⟩ := List.mem_map.mp hc
  exact up_lt d (h.2 d hd)⟩
theorem join_toS (sep : List Nat) : ∀ zs : List (List Nat), Txt.join (toS sep) (zs.map toS) = toS (joined sep zs)
  | [] => rfl
  | z :: zs => by
    show PySem.Builtin.Str.glued (toS sep) (toS z :: zs.map toS) = _
    unfold PySem.Builtin.Str.glued
    have k : ∀ (l : List (List Nat)) (acc : List Nat), (l.map toS).foldl (fun a p => a ++ (toS sep).cps ++ p.cps) acc.toArray = (l.foldl (fun a p => a ++ sep ++ p) acc).toArray := by
      intro l
      induction l with
      | nil => intro acc; rfl
      | cons y l ih =>
        intro acc
        rw [List.map_cons, List.foldl_cons, List.foldl_cons, ← ih]
        congr 1
        simp [toS]
    have k2 : ∀ (l : List (List Nat)) (acc : List Nat), l.foldl (fun a p => a ++ sep ++ p) acc = acc ++ (l.map fun p => sep ++ p).flatten := by
      intro l
      induction l with
      | nil => intro acc; simp
      | cons y l ih => intro acc; rw [List.foldl_cons, ih]; simp
    have k3 : ∀ (l : List (List Nat)) (y : List Nat), joined sep (y :: l) = y ++ (l.map fun p => sep ++ p).flatten := by
      intro l
      induction l with
      | nil => intro y; simp [joined]
      | cons x l ih => intro y; rw [joined, ih]; simp
    rw [k3, ← k2]
    show Str.mk ((zs.map toS).foldl _ (toS z).cps) = _
    have e : (toS z).cps = z.toArray := rfl
    rw [e, k]
    rfl
theorem joined_len (sep : List Nat) : ∀ zs : List (List Nat), (joined sep zs).length ≤ (zs.map List.length).sum + zs.length * sep.length
  | [] => by simp [joined]
  | [z] => by simp [joined]
  | z :: y :: r => by
    have h := joined_len sep (y :: r)
    rw [joined, List.length_append, List.length_append, List.map_cons, List.sum_cons, List.length_cons (as := y :: r), Nat.succ_mul]
    omega
theorem joined_mem (sep : List Nat) : ∀ (zs : List (List Nat)) (c : Nat), c ∈ joined sep zs → c ∈ sep ∨ ∃ z ∈ zs, c ∈ z
  | [], c, h => by simp [joined] at h
  | [z], c, h => .inr ⟨z, by simp, h⟩
  | z :: y :: r, c, h => by
    rw [joined] at h
    rcases List.mem_append.mp h with h | h
    · rcases List.mem_append.mp h with h | h
      · exact .inr ⟨z, by simp, h⟩
      · exact .inl h
    · rcases joined_mem sep (y :: r) c h with h | ⟨w, h1, h2⟩
      · exact .inl h
      · exact .inr ⟨w, List.mem_cons_of_mem _ h1, h2⟩
section
variable {X : Cx} {G : Gs} {W : WX} {cf : Cf} {ct : Ct} {lv : Nat}
def rMt (G : Gs) (W : WX) (m : Mt) : V → List V → Hp → VK → Prop := fun x xs H Q => ∃ σ ι M a, xs = [] ∧ HR G ι M H ∧ VR G.K ι H a x ∧ Post G W σ ι H (RV G) Q (mt1 m a M)
def mtId : Mt → String
  | .isascii => "str.isascii" | .isprintable => "str.isprintable" | .upper => "str.upper"
def mtN : Mt → Str
  | .isascii => "isascii" | .isprintable => "isprintable" | .upper => "upper"
theorem mt_run (m : Mt) : MtR X (mtId m) (rMt G W m) := by
  rintro ps s σ' H x xs v us Q I rx rs ⟨σ, ι, M, a, rfl, hr, ra, q⟩
  unfold mt1 at q
  split at q
  · cases ra with
    | str z hz =>
      refine mt_isascii ps s σ' H _ _ v us Q I rx rs ⟨_, rfl, rfl, trivial, ?_⟩
      rw [isascii_toS hz]
      exact q.here hr (.bl _)
  · cases ra with
    | str z hz =>
      refine mt_isprintable ps s σ' H _ _ v us Q I rx rs ⟨_, rfl, rfl, trivial, ?_⟩
      rw [isprintable_toS hz]
      exact q.here hr (.bl _)
  · cases ra with
    | str z hz =>
      split at q
      · rename_i c
        refine mt_upper ps s σ' H _ _ v us Q I rx rs ⟨_, rfl, rfl, by rw [toS_length]; simpa using c, ?_⟩
        rw [upper_toS hz]
        exact q.here hr (.str _ (okS_up hz))
      · exact q.elim
  · exact q.elim
theorem e_mt (g : Good X G W cf ct lv) {a : Expr} {ma : E} {m : Mt} {ap cp : Pos} (ha : PE X a (tE G W cf ma)) (hc : notCall0 a = true) (hl : (ap.endLine == cp.line) = true) : PE X (.Call (.Attribute a (mtN m) ap) [] [] cp) (tE G W cf (.mt m ma)) := by
  have key : PE X (.Call (.Attribute a (mtN m) ap) [] [] cp) (tBM0 X.K "str" (rMt G W m) (tE G W cf ma)) := by
    have R := mt_run (X := X) (G := G) (W := W) m
    cases m with
    | isascii => exact pe_bm0 PySem.F.plainAttrs_str PySem.F.slot_str_isascii PySem.F.type_str_isascii R ha (base_ok hc) hl
    | isprintable => exact pe_bm0 PySem.F.plainAttrs_str PySem.F.slot_str_isprintable PySem.F.type_str_isprintable R ha (base_ok hc) hl
    | upper => exact pe_bm0 PySem.F.plainAttrs_str PySem.F.slot_str_upper PySem.F.type_str_upper R ha (base_ok hc) hl
  refine key.imp fun σ H Q q => ?_
  obtain ⟨ι, τ, M, hs, hr, q⟩ := q
  unfold ev at q
  refine ⟨ι, τ, M, hs, hr, q.bind fun x M1 ι1 H1 v _ l1 hr1 r1 q1 => ?_⟩
  refine ⟨?_, σ, ι1, M1, x, rfl, hr1, r1, q1⟩
  cases r1 with
  | str z hz => rfl
  | _ => cases m <;> exact q1.elim
theorem okS_joined {sep : List Nat} {zs : List (List Nat)} (hs : okS sep) (hz : ∀ z ∈ zs, okS z) (h : (zs.map List.length).sum + zs.length * sep.length ≤ LIM) : okS (joined sep zs) :=
  ⟨Nat.le_trans (joined_len _ _) h, fun c hc => (joined_mem _ _ c hc).elim (hs.2 c) fun ⟨z, h1, h2⟩ => (hz z h1).2 c h2⟩
theorem few1 {env : Env} {e : Expr} {cp : Pos} (h : notStar e = true) : ((backTo cp (starEach [e] env)).all (fun x => !x.1) && (backToKw cp (keywordEach [] env)).all (fun x => x.1.isSome)
      && decide ([e].length + ([] : List Keyword).length + (if ([] : List Keyword).isEmpty then 0 else 1) < 30)) = true := by
  rw [star_ok h]; rfl
theorem e_join (g : Good X G W cf ct lv) {a b : Expr} {ma : E} {l : L} {ap cp : Pos} (ha : PE X a (tE G W cf ma)) (hb : PE X b (tL G W cf l)) (hc : notCall0 a = true) (hl : (ap.endLine == cp.line) = true) (hn : notStar b = true) :
    PE X (.Call (.Attribute a "join" ap) [b] [] cp) (tE G W cf (.join ma l)) := by
  refine (pe_bm PySem.F.plainAttrs_str PySem.F.slot_str_join PySem.F.type_str_join mt_join ha (pa_cons hb pa_nil (star_ok hn)) (base_ok hc) (few1 hn) hl (star_ok hn) (stars_ok (es := []) rfl)).imp fun σ H Q q => ?_
  obtain ⟨ι, τ, M, hs, hr, q⟩ := q
  unfold ev at q
  refine ⟨ι, τ, M, hs, hr, q.bind fun x M1 ι1 H1 v _ l1 hr1 r1 q1 => ?_⟩
  cases r1 with
  | str sep hsep =>
    refine ⟨rfl, ι1, τ, M1, hs.mono l1, hr1, PostL.bind q1 fun xs M2 ι2 H2 w _ l2 hr2 f2 q2 => ?_⟩
    obtain ⟨D, vs, rfl, hD, rv, np, h0⟩ := f2
    cases e : strsOf xs with
    | none => rw [e] at q2; exact q2.elim
    | some zs =>
      rw [e] at q2
      obtain ⟨h1, h2⟩ := strs_ok rv e
      subst h1
      simp only at q2
      split at q2
      · rename_i c
        refine ⟨toS sep, D, zs.map toS, rfl, rfl, .inl (SqL.of hD), ?_, ?_⟩
        · rw [toS_length, List.length_map, List.map_map]
          have e2 : (Str.length ∘ toS) = List.length := by funext z; exact toS_length z
          rw [e2]
          exact c
        · rw [join_toS]
          exact q2.here hr2 (.str _ (okS_joined hsep h2 c))
      · exact q2.elim
  | _ => exact q1.elim
end
end Mi
end MiRun5S

section MiRun6S
set_option Elab.async false
set_option linter.all false
set_option maxRecDepth 100000
namespace Mi
open PySem L2

/-! ### slots wiped and set -/
theorem wipe_at (σ : L2.St) (j : Nat) : ∀ vs : List Nat, (L2.wipe σ vs)[j]? = if j ∈ vs then (σ[j]?).map fun _ => none else σ[j]?
  | [] => by simp [L2.wipe]
  | v :: vs => by
    have ih := wipe_at σ j vs
    show ((L2.wipe σ vs).set v none)[j]? = _
    rw [List.getElem?_set, ih, wipe_length]
    by_cases hv : v = j
    · subst hv
      rw [if_pos rfl, if_pos (List.mem_cons_self)]
      by_cases hl : v < σ.length
      · rw [if_pos hl, List.getElem?_eq_getElem hl]; rfl
      · rw [if_neg hl, List.getElem?_eq_none (by omega)]; rfl
    · rw [if_neg hv]
      by_cases hj : j ∈ vs
      · rw [if_pos hj, if_pos (List.mem_cons_of_mem _ hj)]
      · rw [if_neg hj, if_neg (by simp only [List.mem_cons, not_or]; exact ⟨fun e => hv e.symm, hj⟩)]
theorem wipe_set {σ : L2.St} {i : Nat} {w : Option V} {vs : List Nat} (h : i ∈ vs) : L2.wipe (σ.set i w) vs = L2.wipe σ vs := by
  apply List.ext_getElem?
  intro j
  rw [wipe_at, wipe_at]
  by_cases hj : j ∈ vs
  · rw [if_pos hj, if_pos hj]
    by_cases hl : j < σ.length
    · rw [List.getElem?_eq_getElem (by simpa using hl), List.getElem?_eq_getElem hl]; rfl
    · rw [List.getElem?_eq_none (by simp; omega), List.getElem?_eq_none (by omega)]
  · rw [if_neg hj, if_neg hj, List.getElem?_set_ne (fun e : i = j => hj (by rw [← e]; exact h))]
theorem wipe_wipe {σ : L2.St} {vs : List Nat} : L2.wipe (L2.wipe σ vs) vs = L2.wipe σ vs := by
  apply List.ext_getElem?
  intro j
  rw [wipe_at, wipe_at]
  by_cases hj : j ∈ vs
  · rw [if_pos hj, if_pos hj]; cases σ[j]? <;> rfl
  · rw [if_neg hj, if_neg hj]

/-! ### targets -/
def gNs : List Nat → TGs
  | [] => gNil
  | i :: is => gCons (gName i) (gNs is)
def gT (G : Gs) : Tg → TG
  | .one i => gName i
  | .many is => gTup G.K is.length (gNs is)
def Tg.slots : Tg → List Nat
  | .one i => [i]
  | .many is => is
theorem gns_ok {G : Gs} {ι : List Addr} {H : Hp} : ∀ {is : List Nat} {xs : List Val} {vs : List V} {τ τ2 : St} {σ : L2.St} {Q : L2.St → Hp → Prop}, xs.length = is.length → VRs G.K ι H xs vs → SR G ι H τ σ →
    (is.zip xs).foldl (fun s p => s.set p.1 (some p.2)) τ = τ2 → (∀ σ2, SR G ι H τ2 σ2 → (∀ us, (∀ i ∈ is, i ∈ us) → L2.wipe σ2 us = L2.wipe σ us) → Q σ2 H) → gNs is vs σ H Q
  | [], xs, vs, τ, τ2, σ, Q, hl, r, hs, e, k => by
    have : xs = [] := by simpa using hl
    subst this
    cases r
    cases e
    exact ⟨rfl, k _ hs fun _ _ => rfl⟩
  | i :: is, [], vs, τ, τ2, σ, Q, hl, r, hs, e, k => by simp at hl
  | i :: is, x :: xs, vs, τ, τ2, σ, Q, hl, r, hs, e, k => by
    cases r with
    | cons r1 r2 =>
      refine ⟨_, _, rfl, ?_⟩
      show gNs is _ (σ.set i (some _)) H Q
      refine gns_ok (by simpa using hl) r2 (hs.set r1 i) (by simpa using e) fun σ2 h2 hw => k σ2 h2 fun us hu => ?_
      rw [hw us fun j hj => hu j (List.mem_cons_of_mem _ hj), wipe_set (hu i List.mem_cons_self)]
theorem put_ok {G : Gs} {ι : List Addr} {H : Hp} {t : Tg} {x : Val} {v : V} {τ τ2 : St} {σ : L2.St} {Q : L2.St → Hp → Prop} (e : put t x τ = some τ2) (r : VR G.K ι H x v) (hs : SR G ι H τ σ)
    (k : ∀ σ2, SR G ι H τ2 σ2 → (∀ us, (∀ i ∈ t.slots, i ∈ us) → L2.wipe σ2 us = L2.wipe σ us) → Q σ2 H) : gT G t v σ H Q := by
  cases t with
  | one i =>
    cases e
    exact k _ (hs.set r i) fun us hu => wipe_set (hu i (by simp [Tg.slots]))
  | many is =>
    unfold put at e
    cases r with
    | tup hT rr =>
      simp only at e
      split at e
      · rename_i hl
        refine ⟨_, _, rfl, hT, rr.length ▸ hl, ?_⟩
        exact gns_ok hl rr hs (Option.some.inj e) k
      · cases e
    | _ => simp at e
section
variable {X : Cx} {G : Gs} {W : WX} {cf : Cf} {ct : Ct} {lv : Nat}
/-- names that may be stored -/
def stoB (ct : Ct) (x : Str) : Bool := match ct.sc.names.lookup x with
  | some .local => true
  | some .cell => ct.fnc x
  | _ => false
theorem Good.sto (g : Good X G W cf ct lv) {x : Str} (h : stoB ct x = true) : Loc X.env.scope x ∧ (X.fn x = true ∨ X.env.scope.names.lookup x = some .local) := by
  unfold stoB at h
  rw [← g.sc] at h
  split at h
  · rename_i e
    exact ⟨.inl e, .inr e⟩
  · rename_i e
    exact ⟨.inr e, .inl (by rw [g.fnc]; exact h)⟩
  · cases h
theorem g_one (g : Good X G W cf ct lv) {i : Nat} {x : Str} {pos : Pos} (hN : ct.N[i]? = some x) (hs : stoB ct x = true) : PG X (.Name x pos) (gT G (.one i)) :=
  pg_name g.nd (by rw [g.N]; exact hN) (g.sto hs).1 (g.sto hs).2
def namesAt (ct : Ct) : List Expr → Option (List Nat)
  | [] => some []
  | .Name x _ :: es => if stoB ct x then ((ct.N.findIdx? (· == x)).bind fun i => if ct.N[i]? == some x then (namesAt ct es).map (i :: ·) else none) else none
  | _ :: _ => none
theorem names_ok (g : Good X G W cf ct lv) : ∀ {es : List Expr} {is : List Nat}, namesAt ct es = some is → PGs X es (gNs is) ∧ (assignEach es X.env).length = is.length ∧ (assignEach es X.env).findIdx? (·.1) = none
  | [], is, h => by cases h; exact ⟨pgs_nil, rfl, rfl⟩
  | .Name x p :: es, is, h => by
    simp only [namesAt] at h
    split at h
    · rename_i hst
      obtain ⟨i, hi, h⟩ := Option.bind_eq_some_iff.mp h
      split at h
      · rename_i hN
        obtain ⟨js, hj, rfl⟩ := Option.map_eq_some_iff.mp h
        obtain ⟨h1, h2, h3⟩ := names_ok g hj
        refine ⟨pgs_cons (g_one g (by simpa using hN) hst) h1 rfl, ?_, ?_⟩
        · show (_ :: assignEach es X.env).length = _
          rw [List.length_cons, List.length_cons, h2]
        · show (_ :: assignEach es X.env).findIdx? _ = _
          rw [List.findIdx?_cons]
          show (if (false = true) then some 0 else _) = none
          rw [if_neg (by decide), h3]; rfl
      · cases h
    · cases h
theorem g_many (g : Good X G W cf ct lv) {es : List Expr} {is : List Nat} {k : Nat} {pos : Pos} (h : namesAt ct es = some is) : PG X (.Tuple es k pos) (gT G (.many is)) := by
  obtain ⟨h1, h2, h3⟩ := names_ok g h
  show PG X _ (gTup G.K is.length (gNs is))
  rw [g.gk]
  exact pg_tup g.calm h1 h2 h3
end
end Mi
end MiRun6S

section MiRun7S
set_option Elab.async false
set_option linter.all false
set_option maxRecDepth 100000
namespace Mi
open PySem L2

/-! ### what is walked -/
structure Wk (G : Gs) (ι : List Addr) (H : Hp) (xs : List Val) (g : Gd) (J : It) : Prop where
  go : ∀ ι' H' M', Le ι H ι' H' → HR G ι' M' H' → still M' xs g → ∀ i, i < xs.length → J.go i H'
  stop : ∀ ι' H' M', Le ι H ι' H' → HR G ι' M' H' → still M' xs g → J.stop xs.length H'
  yld : ∀ ι' H' M', Le ι H ι' H' → HR G ι' M' H' → still M' xs g → ∀ i x H2, i < xs.length → J.yld i H' x H2 → Le ι' H' ι' H2 ∧ HR G ι' M' H2 ∧ ∃ v, xs[i]? = some v ∧ VR G.K ι' H2 v x
def PostS (G : Gs) (W : WX) (σ : L2.St) (ι : List Addr) (H : Hp) (R : It → Hp → Prop) : Res (List Val × Gd) → Prop
  | .ok p M => ∀ ι' H' J, Le ι H ι' H' → HR G ι' M H' → Wk G ι' H' p.1 p.2 J → R J H'
  | .exc x M => ∀ ι' H' cls d, Le ι H ι' H' → HR G ι' M H' → XR G ι' H' x cls d → W cls d σ H'
  | .bad => False
def tS (G : Gs) (W : WX) (cf : Cf) (m : Src) : TI := fun σ H R => ∃ ι τ M, SR G ι H τ σ ∧ HR G ι M H ∧ PostS G W σ ι H R (evS cf m τ M)
section
variable {G : Gs} {W : WX} {σ : L2.St} {ι : List Addr} {H : Hp} {M : Store}
theorem PostS.mono {Q : It → Hp → Prop} {r : Res (List Val × Gd)} {ι1 : List Addr} {H1 : Hp} (h : PostS G W σ ι H Q r) (l : Le ι H ι1 H1) : PostS G W σ ι1 H1 Q r := by
  cases r with
  | ok a M => exact fun ι' H' b l' => h ι' H' b (l.trans l')
  | exc x M => exact fun ι' H' c d l' => h ι' H' c d (l.trans l')
  | bad => exact h
theorem PostS.of {α β : Type} {R : List Addr → Hp → α → β → Prop} {Q : β → Hp → Prop} {Q' : It → Hp → Prop} {r : Res α} {f : α → Store → Res (List Val × Gd)} (h : PostS G W σ ι H Q' (r.bind f))
    (k : ∀ a M1 ι1 H1 b, r = .ok a M1 → Le ι H ι1 H1 → HR G ι1 M1 H1 → R ι1 H1 a b → PostS G W σ ι1 H1 Q' (f a M1) → Q b H1) : Post G W σ ι H R Q r := by
  cases r with
  | ok a M => exact fun ι' H' b l hr rr => k a M ι' H' b rfl l hr rr (PostS.mono h l)
  | exc x M => exact h
  | bad => exact h
theorem PostS.ofL {Q : VK} {Q' : It → Hp → Prop} {r : Res (List Val)} {f : List Val → Store → Res (List Val × Gd)} (h : PostS G W σ ι H Q' (r.bind f))
    (k : ∀ xs M1 ι1 H1 v, r = .ok xs M1 → Le ι H ι1 H1 → HR G ι1 M1 H1 → Fresh G H ι1 H1 xs v → PostS G W σ ι1 H1 Q' (f xs M1) → Q v H1) : PostL G W σ ι H Q r := by
  cases r with
  | ok a M => exact fun ι' H' b l hr rr => k a M ι' H' b rfl l hr rr (PostS.mono h l)
  | exc x M => exact h
  | bad => exact h
theorem wk_list {xs : List Val} {a : Addr} {g : Gd} (h : ∀ ι' H' M', Le ι H ι' H' → HR G ι' M' H' → still M' xs g → ∃ us, SqL G.K H' a us ∧ VRs G.K ι' H' xs us) : Wk G ι H xs g (Itl G.K a) where
  go := fun ι' H' M' l hr s i hi => by
    obtain ⟨us, q, r⟩ := h ι' H' M' l hr s
    obtain ⟨v, e, _⟩ := r.get (List.getElem?_eq_getElem hi)
    exact ⟨us, v, q, e⟩
  stop := fun ι' H' M' l hr s => by
    obtain ⟨us, q, r⟩ := h ι' H' M' l hr s
    exact ⟨us, q, by rw [r.length]; exact Nat.le_refl _⟩
  yld := fun ι' H' M' l hr s i x H2 hi y => by
    obtain ⟨us, q, r⟩ := h ι' H' M' l hr s
    obtain ⟨v, e, rv⟩ := r.get (List.getElem?_eq_getElem hi)
    have e2 := y.2 us q
    rw [e] at e2
    cases e2
    rw [y.1]
    exact ⟨Le.refl, hr, xs[i], List.getElem?_eq_getElem hi, rv⟩
theorem wk_tup {xs : List Val} {vs : List V} {a : Addr} (q : SqT G.K H a vs) (r : VRs G.K ι H xs vs) : Wk G ι H xs [] (Itt G.K a) where
  go := fun ι' H' M' l hr s i hi => by
    obtain ⟨v, e, _⟩ := r.get (List.getElem?_eq_getElem hi)
    exact ⟨vs, v, l.ext.sqT q, e⟩
  stop := fun ι' H' M' l hr s => ⟨vs, l.ext.sqT q, by rw [r.length]; exact Nat.le_refl _⟩
  yld := fun ι' H' M' l hr s i x H2 hi y => by
    obtain ⟨v, e, rv⟩ := (r.mono l).get (List.getElem?_eq_getElem hi)
    have e2 := y.2 vs (l.ext.sqT q)
    rw [e] at e2
    cases e2
    rw [y.1]
    exact ⟨Le.refl, hr, xs[i], List.getElem?_eq_getElem hi, rv⟩
theorem wk_str {s : List Nat} (hs : okS s) : Wk G ι H (s.map fun c => Val.str [c]) [] (Its (toS s)) where
  go := fun ι' H' M' l hr _ i hi => by
    show i < (toS s).cps.size
    simpa [toS] using hi
  stop := fun ι' H' M' l hr _ => by
    show (toS s).cps.size ≤ _
    simp [toS]
  yld := fun ι' H' M' l hr _ i x H2 hi y => by
    obtain ⟨e1, c, e2, rfl⟩ := y
    have hi2 : i < s.length := by simpa using hi
    have e3 : s[i] = c := by
      have : s[i]? = some c := by simpa [toS] using e2
      rw [List.getElem?_eq_getElem hi2] at this
      exact Option.some.inj this
    rw [e1]
    refine ⟨Le.refl, hr, .str [s[i]], by simp [hi2], ?_⟩
    have : (⟨#[c]⟩ : Str) = toS [s[i]] := by rw [e3]; rfl
    rw [this]
    exact .str _ ⟨by rw [lim_val]; simp, fun d hd => by
      have : d = s[i] := by simpa using hd
      rw [this]; exact hs.2 _ (List.getElem_mem hi2)⟩
theorem wk_rng (n : Nat) : Wk G ι H ((List.range n).map fun i => Val.int (i : Nat)) [] (Itr 0 n) where
  go := fun ι' H' M' l hr _ i hi => by
    show i < n
    simpa using hi
  stop := fun ι' H' M' l hr _ => by
    show n ≤ _
    simp
  yld := fun ι' H' M' l hr _ i x H2 hi y => by
    obtain ⟨e1, rfl⟩ := y
    have hi2 : i < n := by simpa using hi
    rw [e1]
    refine ⟨Le.refl, hr, .int (i : Nat), by simp [hi2], ?_⟩
    have : (0 : Int) + (i : Nat) = (i : Nat) := by omega
    rw [this]
    exact .int _
end

/-- what is walked of a value -/
theorem wk_val {G : Gs} {ι : List Addr} {H : Hp} {M : Store} {x : Val} {v : V} {p : List Val × Gd} (hr : HR G ι M H) (r : VR G.K ι H x v) (e : itemsOf M x = some p) :
    (∃ a, v = .ref a ∧ (∃ us, SqL G.K H a us) ∧ Wk G ι H p.1 p.2 (Itl G.K a)) ∨ (∃ a, v = .ref a ∧ (∃ us, SqT G.K H a us) ∧ Wk G ι H p.1 p.2 (Itt G.K a)) ∨ ∃ s, v = .str s ∧ Wk G ι H p.1 p.2 (Its s) := by
  cases r with
  | non => cases e
  | bl b => cases e
  | int i => cases e
  | fn x => cases e
  | str s hs => cases e; exact .inr (.inr ⟨_, rfl, wk_str hs⟩)
  | tup hT rr => cases e; exact .inr (.inl ⟨_, rfl, ⟨_, hT⟩, wk_tup hT rr⟩)
  | frz hF rr =>
    cases e
    exact .inl ⟨_, rfl, ⟨_, hF.sq⟩, wk_list fun ι' H' M' l _ _ => ⟨_, (l.ext.fixed hF).sq, rr.mono l⟩⟩
  | @ref n a ha =>
    simp only [itemsOf] at e
    split at e
    · rename_i xs em
      cases e
      obtain ⟨us, q, _⟩ := hr.sq_at em ha
      refine .inl ⟨a, rfl, ⟨us, q⟩, wk_list fun ι' H' M' l hr' s => ?_⟩
      exact hr'.sq_at s.1 (l.at ha)
    · cases e
theorem wk_fresh {G : Gs} {H0 : Hp} {ι : List Addr} {H : Hp} {xs : List Val} {v : V} (f : Fresh G H0 ι H xs v) : ∃ a, v = .ref a ∧ (∃ us, SqL G.K H a us) ∧ Wk G ι H xs [] (Itl G.K a) := by
  obtain ⟨D, vs, rfl, hD, rv, np, h0⟩ := f
  exact ⟨D, rfl, ⟨vs, SqL.of hD⟩, wk_list fun ι' H' M' l _ _ => ⟨vs, SqL.of (l.keep _ _ hD np), rv.mono l⟩⟩
section
variable {X : Cx} {G : Gs} {W : WX} {cf : Cf} {ct : Ct} {lv : Nat}
/-- a value is walked by its kind -/
def iVal (K : PySem.W.Frag) (te : TE) : TI := fun σ H R => te σ H fun v H1 =>
  (∃ a, v = .ref a ∧ (∃ us, SqL K H1 a us) ∧ R (Itl K a) H1) ∨ (∃ a, v = .ref a ∧ (∃ us, SqT K H1 a us) ∧ R (Itt K a) H1) ∨ ∃ s, v = .str s ∧ R (Its s) H1
theorem pi_val {tg e : Expr} {te : TE} (he : PE X e te) : PI X tg e (iVal X.K te) := by
  refine ⟨fun pins s σ H R I h => ?_⟩
  refine thn (he.run pins s σ H _ I h) fun v s1 ⟨x, H1, I1, r1, q⟩ => ?_
  rcases q with ⟨a, rfl, ⟨us, hq⟩, q⟩ | ⟨a, rfl, ⟨us, hq⟩, q⟩ | ⟨z, rfl, q⟩
  · cases r1
    obtain ⟨its, rv, p, hz⟩ := I1.list hq
    exact wpAny_pyIter_list p.isList (pi_one (tk := s1.toks) I1 _ (turn_list a _) ⟨_, Heap.get?_push_size _ rfl, rfl, rfl⟩ q)
  · cases r1
    obtain ⟨its, rv, p, hz⟩ := I1.tuple hq
    exact wpAny_pyIter_tuple (show s1.heap.IsTuple a its.toArray from p) (pi_one (tk := s1.toks) I1 _ (turn_tuple a _) ⟨_, Heap.get?_push_size _ rfl, rfl, rfl⟩ q)
  · obtain ⟨t, rfl⟩ := r1
    cases ha : z.cps.all (· < 128)
    · exact wpAny_pyIter_wide ha (pi_one (tk := s1.toks) I1 _ (turn_str _ z t "str_iterator" (.inr rfl)) ⟨_, Heap.get?_push_size _ rfl, rfl, rfl⟩ q)
    · exact wpAny_pyIter_ascii ha (pi_one (tk := s1.toks) I1 _ (turn_str _ z t "str_ascii_iterator" (.inl rfl)) ⟨_, Heap.get?_push_size _ rfl, rfl, rfl⟩ q)
theorem _root_.L2.PI.imp {X : Cx} {tg e : Expr} {t t' : TI} (h : PI X tg e t) (i : ∀ σ H R, t' σ H R → t σ H R) : PI X tg e t' := ⟨fun ps s σ H R J q => h.run ps s σ H R J (i σ H R q)⟩
theorem s_seq (g : Good X G W cf ct lv) {tg e : Expr} {m : E} (he : PE X e (tE G W cf m)) : PI X tg e (tS G W cf (.seq m)) := by
  refine (pi_val he).imp fun σ H R q => ?_
  obtain ⟨ι, τ, M, hs, hr, q⟩ := q
  unfold evS at q
  refine ⟨ι, τ, M, hs, hr, PostS.of q fun x M1 ι1 H1 v _ l1 hr1 r1 q1 => ?_⟩
  cases e : itemsOf M1 x with
  | none => rw [e] at q1; exact q1.elim
  | some p =>
    rw [e] at q1
    have q2 := q1 ι1 H1
    rw [← g.gk]
    rcases wk_val hr1 r1 e with ⟨a, e1, u, w⟩ | ⟨a, e1, u, w⟩ | ⟨s, e1, w⟩
    · exact .inl ⟨a, e1, u, q2 _ Le.refl hr1 w⟩
    · exact .inr (.inl ⟨a, e1, u, q2 _ Le.refl hr1 w⟩)
    · exact .inr (.inr ⟨s, e1, q2 _ Le.refl hr1 w⟩)
theorem s_fresh (g : Good X G W cf ct lv) {tg e : Expr} {m : L} (he : PE X e (tL G W cf m)) : PI X tg e (tS G W cf (.fresh m)) := by
  refine (pi_val he).imp fun σ H R q => ?_
  obtain ⟨ι, τ, M, hs, hr, q⟩ := q
  unfold evS at q
  refine ⟨ι, τ, M, hs, hr, PostS.ofL q fun xs M1 ι1 H1 v _ l1 hr1 f q1 => ?_⟩
  rw [← g.gk]
  obtain ⟨a, e1, u, w⟩ := wk_fresh f
  exact .inl ⟨a, e1, u, q1 ι1 H1 _ Le.refl hr1 w⟩
theorem s_rng (g : Good X G W cf ct lv) {tg a : Expr} {m : E} {p pos : Pos} (ha : PE X a (tE G W cf m)) (hn : notStar a = true) (hg : glB ct.sc "range" = true) (hb : ct.gl "range" = some .blt) :
    PI X tg (.Call (.Name "range" p) [a] [] pos) (tS G W cf (.rng m)) := by
  refine (pi_range1 (glB_ok g.sc hg) (g.blt _ hb) (pa_cons ha pa_nil (star_ok hn)) (star_ok hn)).imp fun σ H R q => ?_
  obtain ⟨ι, τ, M, hs, hr, q⟩ := q
  unfold evS at q
  refine ⟨ι, τ, M, hs, hr, PostS.of q fun x M1 ι1 H1 v _ l1 hr1 r1 q1 => ?_⟩
  cases r1 with
  | int j =>
    simp only at q1
    split at q1
    · rename_i c
      have c' : j < 2 ^ 62 ∧ -(2 ^ 62) ≤ j := by simpa using c
      exact ⟨j, rfl, c'.2, c'.1, q1 ι1 H1 _ Le.refl hr1 (wk_rng _)⟩
    · exact q1.elim
  | _ => exact q1.elim

/-! ### a comprehension's clause -/
def tTs (G : Gs) (W : WX) (cf : Cf) (cs : Es) : TT := fun σ H Q => ∃ ι τ M, SR G ι H τ σ ∧ HR G ι M H ∧ Post G W σ ι H RI Q (evt cf cs τ M)
theorem ts_nil (g : Good X G W cf ct lv) : PTs X [] (tTs G W cf .nil) := by
  refine ⟨fun pins s σ H Q I h => pts_nil.run pins s σ H Q I ?_⟩
  obtain ⟨ι, τ, M, hs, hr, q⟩ := h
  unfold evt at q
  exact q.here hr rfl
theorem ts_one (g : Good X G W cf ct lv) {c : Expr} {m : E} (h : PT X c (tT G W cf m)) : PTs X [c] (tTs G W cf (.cons m .nil)) := by
  refine ⟨fun pins s σ H Q I h' => (pts_one h).run pins s σ H Q I ?_⟩
  obtain ⟨ι, τ, M, hs, hr, q⟩ := h'
  refine ⟨ι, τ, M, hs, hr, ?_⟩
  unfold evt at q
  simp only [evt] at q
  cases h1 : ev cf m τ M with
  | ok x M1 =>
    rw [h1] at q
    simp only [Res.bind_ok] at q ⊢
    cases h2 : truth M1 x with
    | none => rw [h2] at q; exact q
    | some k =>
      rw [h2] at q
      simp only [ofOpt, Res.bind_ok] at q ⊢
      cases k <;> exact q
  | exc => rw [h1] at q; exact q
  | bad => rw [h1] at q; exact q
/-- the context of a comprehension's block -/
def Ct.blk (ct : Ct) (scope : Scope) : Ct := ⟨relS scope ct.sc, ct.N, ct.gl, fun x => scope.names.lookup x == some .cell⟩
abbrev W0 : WX := fun _ _ _ _ => False
theorem Good.blk (g : Good X G W cf ct lv) (s : Shared) (H : Hp) (scope : Scope) (cl : List (Str × Addr)) (C : Addr) (fp : List Addr) : Good (X.blk s H scope (compEnvC scope cl C X.env) fp) G W0 cf (ct.blk scope) lv where
  gk := g.gk
  sc := by
    show relS scope X.env.scope = relS scope ct.sc
    rw [g.sc]
  N := g.N
  nd := g.nd
  calm := g.calm
  takes := takes_none5
  room := g.room
  gds := g.gds
  fnc := rfl
  fn := fun x i k h => let ⟨q⟩ := g.fn x i k h; ⟨q⟩
  gaf := g.gaf
  fnx := fun x k h => let ⟨q⟩ := g.fnx x k h; ⟨q⟩
  tabs := fun x h => let ⟨k, e, q⟩ := g.tabs x h; ⟨k, e, q.mg, q.dic, q.get, q.has⟩
  con := g.con
  blt := g.blt
  exc := fun x c h => let q := g.exc x c h; ⟨q.mg, q.inn, q.kp, q.is, q.ty, q.no⟩
  rep := g.rep
  exm := g.exm
  exs := g.exs
end
end Mi
end MiRun7S

section MiRun8S
set_option Elab.async false
set_option linter.all false
set_option maxRecDepth 100000
namespace Mi
open PySem L2
/-- what was free at the start may be changed -/
theorem Le.acc {ι ι' : List Addr} {H H' : Hp} (l : Le ι H ι' H') {D : Addr} {u : HO} (h0 : H D = none) (hm : L2.Mut (H' D)) : Le ι H ι' (upd H' D u) where
  more := l.more
  ext := l.ext.trans (Ext.mut hm)
  dom := fun a e => by
    by_cases q : a = D
    · rw [q, upd_same] at e; cases e
    · rw [upd_ne q] at e; exact l.dom a e
  keep := fun a v e n => by
    rw [upd_ne (ne_of_none e h0)]
    exact l.keep a v e n
theorem turns_noexc {f : Val → Store → Res (Option Val)} {all : List Val} {g : Gd} : ∀ {xs : List Val} {M : Store} {x : Exc} {M' : Store}, turns f all g xs M ≠ .exc x M'
  | [], M, x, M' => by
    unfold turns
    split <;> intro h <;> cases h
  | y :: ys, M, x, M' => by
    unfold turns
    split
    · cases h : f y M with
      | ok a M1 =>
        simp only [Res.calm_ok, Res.bind_ok]
        cases h2 : turns f all g ys M1 with
        | ok b M2 => intro h; cases h
        | exc e M2 => exact absurd h2 turns_noexc
        | bad => intro h; cases h
      | exc e M1 => intro h; cases h
      | bad => intro h; cases h
    · intro h; cases h
/-- one turn of a comprehension -/
noncomputable def lcTurn (cf : Cf) (t : Tg) (cs : Es) (e : E) (τ : St) : Val → Store → Res (Option Val) := fun x M2 => match put t x τ with
  | some σ2 => (evt cf cs σ2 M2).bind fun k M3 => if k then (ev cf e σ2 M3).bind fun y M4 => .ok (some y) M4 else .ok none M3
  | none => .bad
def lcEnd (acc ys : List Val) (M : Store) : Res (List Val) := if (acc ++ ys).length ≤ LIM then .ok (acc ++ ys) M else .bad
section
variable {X : Cx} {G : Gs} {W : WX} {cf : Cf} {ct : Ct} {lv : Nat}
theorem lc_run {Xb : Cx} {σ : L2.St} {ι1 : List Addr} {H1 : Hp} {M1 : Store} {Q : VK} {own : List Nat} {t : Tg} {cs : Es} {e : E} {τ : St} {xs : List Val} {gd : Gd} {J : It} (hs : SR G ι1 H1 τ σ) (hr : HR G ι1 M1 H1) (w : Wk G ι1 H1 xs gd J)
    (ht : ∀ i ∈ t.slots, i ∈ own) (q : PostL G W σ ι1 H1 Q ((turns (lcTurn cf t cs e (Mi.wiped τ own)) xs gd xs M1).bind fun ys M5 => lcEnd [] ys M5)) {D : Addr} (hD : H1 D = none) :
    ∃ Wv : Nat → Nat → Hp → Prop, (∃ m, Wv 0 m (upd H1 D (.lst []))) ∧ ∀ i m H, Wv i m H →
      (J.stop i H ∧ Q (.ref D) H) ∨ (J.go i H ∧ ∃ Nx : Hp → Prop, (∀ H', Nx H' → ∃ m', m' < m ∧ Wv (i + 1) m' H') ∧ ∀ x H', J.yld i H x H' → gT G t x (L2.wipe σ own) H' fun σ2 H2 => L2.wipe σ2 own = L2.wipe σ own ∧ tTs G W0 cf cs σ2 H2 fun b H3 =>
        if b = true then tE G W0 cf e σ2 H3 fun y H4 => ∃ acc, H4 D = some (.lst acc) ∧ acc.length < sizeLine ∧ Nx (upd H4 D (.lst (acc ++ [y]))) else Nx H3) := by
  let f := lcTurn cf t cs e (Mi.wiped τ own)
  let Pv : Nat → Hp → Prop := fun i H => ∃ ι M acc vs, Le ι1 H1 ι H ∧ HR G ι M H ∧ D ∉ ι ∧ H D = some (.lst vs) ∧ VRs G.K ι H acc vs ∧ PostL G W σ ι1 H1 Q ((turns f xs gd (xs.drop i) M).bind fun ys M5 => lcEnd acc ys M5)
  refine ⟨fun i m H => m = xs.length - i ∧ i ≤ xs.length ∧ Pv i H, ⟨xs.length, by simp, Nat.zero_le _, ι1, M1, [], [], Le.new hD, hr.new hD, hr.ne hD, upd_same, .nil, by simpa using q⟩, ?_⟩
  rintro i m H ⟨rfl, hi, ι, M, acc, vs, l, hr2, nD, eD, ra, q2⟩
  by_cases hlt : i < xs.length
  · have ed : xs.drop i = xs[i] :: xs.drop (i + 1) := List.drop_eq_getElem_cons hlt
    rw [ed] at q2
    unfold turns at q2
    split at q2
    · rename_i hst
      refine .inr ⟨w.go ι H M l hr2 hst i hlt, Pv (i + 1), fun H' p' => ⟨xs.length - (i + 1), by omega, rfl, hlt, p'⟩, fun x H' y => ?_⟩
      obtain ⟨ly, hry, v, ev1, rv⟩ := w.yld ι H M l hr2 hst i x H' hlt y
      replace l := l.trans ly
      replace eD := ly.keep _ _ eD nD
      replace ra := ra.mono ly
      replace hr2 := hry
      have ev2 : v = xs[i] := by rw [List.getElem?_eq_getElem hlt] at ev1; exact (Option.some.inj ev1).symm
      subst ev2
      cases hp : put t xs[i] (Mi.wiped τ own) with
      | none =>
        have hf : f xs[i] M = .bad := by
          show lcTurn _ _ _ _ _ _ _ = _
          unfold lcTurn
          rw [hp]
        rw [hf] at q2
        exact q2.elim
      | some τ2 =>
        have hf : f xs[i] M = (evt cf cs τ2 M).bind fun k M3 => if k then (ev cf e τ2 M3).bind fun y M4 => .ok (some y) M4 else .ok none M3 := by
          show lcTurn _ _ _ _ _ _ _ = _
          unfold lcTurn
          rw [hp]
        rw [hf] at q2
        refine put_ok hp rv ((hs.mono l).wiped own) fun σ2 hs2 hw => ⟨(hw own ht).trans wipe_wipe, ι, τ2, M, hs2, hr2, ?_⟩
        cases h1 : evt cf cs τ2 M with
        | bad => rw [h1] at q2; exact q2.elim
        | exc ex M3 => rw [h1] at q2; exact q2.elim
        | ok k M3 =>
          rw [h1] at q2
          simp only [Res.bind_ok] at q2
          rintro ι3 H3 b l3 hr3 rfl
          have nD3 : D ∉ ι3 := fun z => by
            obtain ⟨tl, rfl, ft⟩ := l3.more
            rcases List.mem_append.mp z with z | z
            · exact nD z
            · rw [ft D z] at eD; cases eD
          have eD3 : H3 D = some (.lst vs) := l3.keep _ _ eD nD
          cases b with
          | false =>
            simp only [Bool.false_eq_true, if_false, Res.calm_ok, Res.bind_ok] at q2 ⊢
            refine ⟨ι3, M3, acc, vs, l.trans l3, hr3, nD3, eD3, ra.mono l3, ?_⟩
            have q3 : PostL G W σ ι1 H1 Q ((turns f xs gd (xs.drop (i + 1)) M3).bind fun ys M5 => lcEnd acc ys M5) := by
              cases h2 : turns f xs gd (xs.drop (i + 1)) M3 <;> (rw [h2] at q2; exact q2)
            exact q3
          | true =>
            simp only [if_true] at q2 ⊢
            refine ⟨ι3, τ2, M3, hs2.mono l3, hr3, ?_⟩
            cases h2 : ev cf e τ2 M3 with
            | bad => rw [h2] at q2; exact q2.elim
            | exc ex M4 => rw [h2] at q2; exact q2.elim
            | ok y M4 =>
              rw [h2] at q2
              simp only [Res.bind_ok, Res.calm_ok] at q2
              intro ι4 H4 yv l4 hr4 ry
              have nD4 : D ∉ ι4 := fun z => by
                obtain ⟨tl, rfl, ft⟩ := l4.more
                rcases List.mem_append.mp z with z | z
                · exact nD3 z
                · rw [ft D z] at eD3; cases eD3
              have eD4 : H4 D = some (.lst vs) := l4.keep _ _ eD3 nD3
              have q3 : PostL G W σ ι1 H1 Q ((turns f xs gd (xs.drop (i + 1)) M4).bind fun ys M5 => lcEnd (acc ++ [y]) ys M5) := by
                cases h3 : turns f xs gd (xs.drop (i + 1)) M4 with
                | bad => rw [h3] at q2; exact q2
                | exc ex M5 => exact absurd h3 turns_noexc
                | ok ys M5 =>
                  rw [h3] at q2
                  simp only [Res.bind_ok] at q2 ⊢
                  have e2 : acc ++ [y] ++ ys = acc ++ y :: ys := by simp
                  unfold lcEnd at q2 ⊢
                  rw [e2]
                  exact q2
              have hl : acc.length < LIM := by
                cases h3 : turns f xs gd (xs.drop (i + 1)) M4 with
                | bad => rw [h3] at q3; exact q3.elim
                | exc ex M5 => exact absurd h3 turns_noexc
                | ok ys M5 =>
                  rw [h3] at q3
                  simp only [Res.bind_ok] at q3
                  unfold lcEnd at q3
                  split at q3
                  · rename_i c
                    simp at c
                    omega
                  · exact q3.elim
              have mD : L2.Mut (H4 D) := mut_lst eD4
              refine ⟨vs, eD4, by rw [← ((ra.mono l3).mono l4).length, ← lim_eq]; exact hl, ι4, M4, acc ++ [y], vs ++ [yv], (l.trans (l3.trans l4)).acc hD mD, hr4.other mD nD4, nD4, upd_same, ?_, q3⟩
              exact VRs.ext (Ext.mut mD) (((ra.mono l3).mono l4).append (.cons ry .nil))
    · exact q2.elim
  · have e1 : i = xs.length := by omega
    subst e1
    rw [List.drop_length] at q2
    unfold turns at q2
    split at q2
    · rename_i hst
      simp only [Res.bind_ok] at q2
      unfold lcEnd at q2
      split at q2
      · rw [List.append_nil] at q2
        exact .inl ⟨w.stop ι H M l hr2 hst, q2 ι H (.ref D) l hr2 ⟨D, vs, rfl, eD, ra, nD, hD⟩⟩
      · exact q2.elim
    · exact q2.elim
theorem evL_comp {own : List Nat} {t : Tg} {src : Src} {cs : Es} {e : E} {τ : St} {M : Store} : evL cf (.comp own t src cs e) τ M = (evS cf src τ M).bind fun p M1 => (turns (lcTurn cf t cs e (Mi.wiped τ own)) p.1 p.2 p.1 M1).bind fun ys M5 => lcEnd [] ys M5 := by
  unfold evL
  rfl
theorem lc_read (g : Good X G W cf ct lv) {tg iter : Expr} {own : List (Str × Nat)} {src : Src} {t : Tg} {cs : Es} {e : E} (ht : t.slots.all (fun i => (own.map (·.2)).contains i) = true) {σ : L2.St} {H : Hp} {Q : VK}
    (q : tL G W cf (.comp (own.map (·.2)) t src cs e) σ H Q) : tLc (tS G W cf src) (gT G t) (tTs G W0 cf cs) (tE G W0 cf e) (own.map (·.2)) σ H Q := by
  obtain ⟨ι, τ, M, hs, hr, q⟩ := q
  rw [evL_comp] at q
  refine ⟨ι, τ, M, hs, hr, ?_⟩
  cases h : evS cf src τ M with
  | bad => rw [h] at q; exact q.elim
  | exc x M1 => rw [h] at q; exact q
  | ok p M1 =>
    rw [h] at q
    simp only [Res.bind_ok] at q
    intro ι1 H1 J l1 hr1 w D hD
    exact lc_run (Xb := X) (hs.mono l1) hr1 w (fun i hi => by simpa using List.all_eq_true.mp ht i hi) (q.mono l1) hD
theorem l_comp (g : Good X G W cf ct lv) {elt tg iter : Expr} {ifs : List Expr} {scope : Scope} {own : List (Str × Nat)} {pos : Pos} {src : Src} {t : Tg} {cs : Es} {e : E} (hi : PI X tg iter (tS G W cf src)) (ok : blkC ct.N ct.sc scope own = true) (ht : t.slots.all (fun i => (own.map (·.2)).contains i) = true)
    (hg : ∀ (s : Shared) (H : Hp) (C : Addr) (cl : List (Str × Addr)) (fp : List Addr), PG (X.blk s H scope (compEnvC scope cl C X.env) fp) tg (gT G t))
    (hts : ∀ (s : Shared) (H : Hp) (C : Addr) (cl : List (Str × Addr)) (fp : List Addr), PTs (X.blk s H scope (compEnvC scope cl C X.env) fp) ifs (tTs G W0 cf cs))
    (he : ∀ (s : Shared) (H : Hp) (C : Addr) (cl : List (Str × Addr)) (fp : List Addr), PE (X.blk s H scope (compEnvC scope cl C X.env) fp) elt (tE G W0 cf e)) (hf : ∀ x, foldedSetIterable iter X.env x = pure x) :
    PE X (.ListComp elt [⟨tg, iter, ifs, 0⟩] scope pos) (tL G W cf (.comp (own.map (·.2)) t src cs e)) :=
  (pe_lc g.calm g.nd hi (blkOk_by (by rw [g.N, g.sc]; exact ok)) hg hts he hf).imp fun σ H Q q => lc_read (tg := tg) (iter := iter) g ht q
end
end Mi
end MiRun8S

section MiRun9S
set_option Elab.async false
set_option linter.all false
set_option maxRecDepth 100000
namespace Mi
open PySem L2

/-! ### statements -/
def PostO (G : Gs) (W : WX) (ι : List Addr) (H : Hp) (D : Ends) : Out → Prop
  | .nx τ M => ∀ ι' H' σ', Le ι H ι' H' → HR G ι' M H' → SR G ι' H' τ σ' → D.nx σ' H'
  | .ret v M => ∀ ι' H' w, Le ι H ι' H' → HR G ι' M H' → VR G.K ι' H' v w → D.rt w H'
  | .brk τ M => ∀ ι' H' σ', Le ι H ι' H' → HR G ι' M H' → SR G ι' H' τ σ' → D.bk σ' H'
  | .cnt τ M => ∀ ι' H' σ', Le ι H ι' H' → HR G ι' M H' → SR G ι' H' τ σ' → D.ct σ' H'
  | .exc x τ M => ∀ ι' H' σ' cls d, Le ι H ι' H' → HR G ι' M H' → SR G ι' H' τ σ' → XR G ι' H' x cls d → W cls d σ' H'
  | .bad => False
def tSt (G : Gs) (W : WX) (cf : Cf) (m : S) : TS := fun D σ H => ∃ ι τ M, SR G ι H τ σ ∧ HR G ι M H ∧ PostO G W ι H D (ex cf m τ M)
def tSs (G : Gs) (W : WX) (cf : Cf) (m : Ss) : TS := fun D σ H => ∃ ι τ M, SR G ι H τ σ ∧ HR G ι M H ∧ PostO G W ι H D (exs cf m τ M)
section
variable {G : Gs} {W : WX} {σ : L2.St} {ι : List Addr} {H : Hp} {M : Store} {D : Ends}
theorem PostO.mono {r : Out} {ι1 : List Addr} {H1 : Hp} (h : PostO G W ι H D r) (l : Le ι H ι1 H1) : PostO G W ι1 H1 D r := by
  cases r with
  | nx τ M => exact fun ι' H' s l' => h ι' H' s (l.trans l')
  | ret v M => exact fun ι' H' s l' => h ι' H' s (l.trans l')
  | brk τ M => exact fun ι' H' s l' => h ι' H' s (l.trans l')
  | cnt τ M => exact fun ι' H' s l' => h ι' H' s (l.trans l')
  | exc x τ M => exact fun ι' H' s c d l' => h ι' H' s c d (l.trans l')
  | bad => exact h
theorem PostO.on {α β : Type} {R : List Addr → Hp → α → β → Prop} {Q : β → Hp → Prop} {τ : St} {r : Res α} {f : α → Store → Out} (h : PostO G W ι H D (Out.on r τ f)) (hs : SR G ι H τ σ)
    (k : ∀ a M1 ι1 H1 b, r = .ok a M1 → Le ι H ι1 H1 → HR G ι1 M1 H1 → R ι1 H1 a b → PostO G W ι1 H1 D (f a M1) → Q b H1) : Post G W σ ι H R Q r := by
  cases r with
  | ok a M => exact fun ι' H' b l hr rr => k a M ι' H' b rfl l hr rr (PostO.mono h l)
  | exc x M => exact fun ι' H' c d l hr xr => h ι' H' σ c d l hr (hs.mono l) xr
  | bad => exact h
theorem PostO.onS {Q : It → Hp → Prop} {τ : St} {r : Res (List Val × Gd)} {f : List Val × Gd → Store → Out} (h : PostO G W ι H D (Out.on r τ f)) (hs : SR G ι H τ σ)
    (k : ∀ p M1 ι1 H1 J, r = .ok p M1 → Le ι H ι1 H1 → HR G ι1 M1 H1 → Wk G ι1 H1 p.1 p.2 J → PostO G W ι1 H1 D (f p M1) → Q J H1) : PostS G W σ ι H Q r := by
  cases r with
  | ok a M => exact fun ι' H' b l hr rr => k a M ι' H' b rfl l hr rr (PostO.mono h l)
  | exc x M => exact fun ι' H' c d l hr xr => h ι' H' σ c d l hr (hs.mono l) xr
  | bad => exact h
end
/-- no comprehension -/
def notLc : Expr → Bool
  | .ListComp _ _ _ _ => false
  | .SetComp _ _ _ _ => false
  | .DictComp _ _ _ _ _ => false
  | _ => true
theorem notLc_ok {e : Expr} {t : Option Expr} {l : Nat} {env : Env} (h : notLc e = true) : swapsWith e t l env = pure false := by
  cases e <;> first | rfl | cases h
def notTup : Expr → Bool
  | .Tuple _ _ _ => false
  | _ => true
theorem notTup_ok {ts : List Expr} {e : Expr} {env : Env} (h : notTup e = true) : swappedStores ts e env = pure none := by
  unfold swappedStores
  cases e with
  | Tuple => cases h
  | _ =>
    cases ts with
    | nil => rfl
    | cons t ts => cases ts with
      | nil => cases t <;> rfl
      | cons u us => cases t <;> rfl
section
variable {X : Cx} {G : Gs} {W : WX} {cf : Cf} {ct : Ct} {lv : Nat}
theorem st_nil : PSs X [] (tSs G W cf .nil) := pss_nil.imp fun D σ H q => by
  obtain ⟨ι, τ, M, hs, hr, q⟩ := q
  unfold exs at q
  exact q ι H σ Le.refl hr hs
theorem st_cons {s : Stmt} {ss : List Stmt} {m : S} {ms : Ss} (h1 : PS X s (tSt G W cf m)) (h2 : PSs X ss (tSs G W cf ms)) : PSs X (s :: ss) (tSs G W cf (.cons m ms)) := by
  refine (pss_cons h1 h2).imp fun D σ H q => ?_
  obtain ⟨ι, τ, M, hs, hr, q⟩ := q
  unfold exs at q
  refine ⟨ι, τ, M, hs, hr, ?_⟩
  cases h : ex cf m τ M with
  | nx τ1 M1 =>
    rw [h] at q
    exact fun ι' H' σ' l hr' hs' => ⟨ι', τ1, M1, hs', hr', PostO.mono q l⟩
  | ret v M1 => rw [h] at q; exact q
  | brk τ1 M1 => rw [h] at q; exact q
  | cnt τ1 M1 => rw [h] at q; exact q
  | exc x τ1 M1 => rw [h] at q; exact q
  | bad => rw [h] at q; exact q
theorem st_asg (g : Good X G W cf ct lv) {i : Nat} {x : Str} {e : Expr} {m : E} {p pos : Pos} (hN : ct.N[i]? = some x) (hst : stoB ct x = true) (he : PE X e (tE G W cf m)) (hl : notLc e = true) : PS X (.Assign [.Name x p] e pos) (tSt G W cf (.set i m)) := by
  refine (ps_set g.nd (by rw [g.N]; exact hN) (g.sto hst).1 he (notLc_ok hl) (g.sto hst).2).imp fun D σ H q => ?_
  obtain ⟨ι, τ, M, hs, hr, q⟩ := q
  unfold ex at q
  refine ⟨ι, τ, M, hs, hr, PostO.on q hs fun v M1 ι1 H1 w _ l1 hr1 r1 q1 => ?_⟩
  exact q1 ι1 H1 _ Le.refl hr1 ((hs.mono l1).set r1 i)
theorem st_unp (g : Good X G W cf ct lv) {is : List Nat} {es : List Expr} {k : Nat} {e : Expr} {m : E} {p pos : Pos} (hn : namesAt ct es = some is) (he : PE X e (tE G W cf m)) (hl : notLc e = true) (ht : notTup e = true) : PS X (.Assign [.Tuple es k p] e pos) (tSt G W cf (.unp is m)) := by
  have hsole : swapsWithSole [.Tuple es k p] e pos.line X.env = pure false := by unfold swapsWithSole; exact notLc_ok hl
  refine (ps_asg (pos := pos) he (g_many g hn) hsole (notTup_ok ht) rfl).imp fun D σ H q => ?_
  obtain ⟨ι, τ, M, hs, hr, q⟩ := q
  unfold ex at q
  refine ⟨ι, τ, M, hs, hr, PostO.on q hs fun v M1 ι1 H1 w _ l1 hr1 r1 q1 => ?_⟩
  split at q1
  · rename_i τ2 hp
    exact put_ok hp r1 (hs.mono l1) fun σ2 hs2 _ => q1 ι1 H1 σ2 Le.refl hr1 hs2
  · exact q1.elim
def isLocal (ct : Ct) (x : Str) : Bool := match ct.sc.names.lookup x with
  | some .local => true
  | _ => false
theorem isLocal_ok {x : Str} (h : isLocal ct x = true) : ct.sc.names.lookup x = some .local := by
  unfold isLocal at h
  split at h
  · assumption
  · cases h
/-- two names on one row stored from a pair -/
def parB (ct : Ct) (x y : Str) (px py : Pos) (a b : Expr) : Bool :=
  isLocal ct x && isLocal ct y && (x != y) && (px.line == py.line) && notStar a && notStar b && !([a, b].all (foldedForSure 8)) && !([a, b].all (constantsAlone 8)) && (match ct.sc.kind with | .function => true | _ => false)
theorem parB_ok (g : Good X G W cf ct lv) {x y : Str} {px py pt p2 : Pos} {kt k2 : Nat} {a b : Expr} (h : parB ct x y px py a b = true) :
    swappedStores [.Tuple [.Name x px, .Name y py] kt pt] (.Tuple [a, b] k2 p2) X.env = pure (some [x, y]) := by
  unfold parB at h
  simp only [Bool.and_eq_true] at h
  obtain ⟨⟨⟨⟨⟨⟨⟨⟨h1, h2⟩, h3⟩, h4⟩, h5⟩, h6⟩, h7⟩, h8⟩, h9⟩ := h
  have kx : X.env.kindOf x = some .local := by
    show X.env.scope.names.lookup x = _
    rw [g.sc]; exact isLocal_ok h1
  have ky : X.env.kindOf y = some .local := by
    show X.env.scope.names.lookup y = _
    rw [g.sc]; exact isLocal_ok h2
  have kk : X.env.blockKind = .function := by
    unfold Env.blockKind
    rw [g.sc]
    split at h9
    · rename_i e; rw [e]; rfl
    · cases h9
  have hxy : (x == y) = false := by simpa using h3
  have h4' : py.line = px.line := by
    have : px.line = py.line := by simpa using h4
    exact this.symm
  have hyx : (y == x) = false := by
    rw [beq_eq_false_iff_ne] at hxy ⊢
    exact fun e => hxy e.symm
  have hd : [x, y].eraseDups = [x, y] := by
    rw [List.eraseDups_cons]
    simp [hyx, List.eraseDups_cons]
  unfold swappedStores
  dsimp only
  rw [if_neg (by rw [kk]; intro z; cases z)]
  rw [if_neg (by
    intro z
    obtain ⟨e, he, ze⟩ := List.any_eq_true.mp z
    have hn : notStar e = true := by
      rcases List.mem_cons.mp he with rfl | he
      · exact h5
      · rw [List.mem_singleton.mp he]; exact h6
    cases e <;> first | (cases hn; done) | (cases ze; done))]
  simp only [List.filterMap_cons, List.filterMap_nil, kx, ky, h4', Expr.pos, List.head?_cons, Option.map_some, Option.getD_some, beq_self_eq_true, Bool.and_self, if_true, hd]
  rw [if_neg (by intro z; cases z), if_neg (by intro z; rw [z] at h7; cases h7), if_neg (by intro z; rw [z] at h8; cases h8)]
theorem st_par (g : Good X G W cf ct lv) {i j : Nat} {x y : Str} {a b : Expr} {ma mb : E} {px py pt p2 pos : Pos} {kt k2 : Nat} (hi : ct.N[i]? = some x) (hj : ct.N[j]? = some y) (ha : PE X a (tE G W cf ma)) (hb : PE X b (tE G W cf mb)) (hp : parB ct x y px py a b = true) :
    PS X (.Assign [.Tuple [.Name x px, .Name y py] kt pt] (.Tuple [a, b] k2 p2) pos) (tSt G W cf (.par i j ma mb)) := by
  have hsw := parB_ok (kt := kt) (pt := pt) (k2 := k2) (p2 := p2) g hp
  unfold parB at hp
  simp only [Bool.and_eq_true] at hp
  obtain ⟨⟨⟨⟨⟨⟨⟨⟨h1, h2⟩, h3⟩, h4⟩, h5⟩, h6⟩, h7⟩, h8⟩, h9⟩ := hp
  have hij : i ≠ j := fun e => by
    subst e
    rw [hi] at hj
    have : x = y := Option.some.inj hj
    simp [this] at h3
  refine (ps_par g.calm g.nd (by rw [g.N]; exact hi) (by rw [g.N]; exact hj) hij (by rw [g.sc]; exact isLocal_ok h1) (by rw [g.sc]; exact isLocal_ok h2) (pa_cons ha (pa_cons hb pa_nil (star_ok h6)) (star_ok h5)) hsw rfl).imp fun D σ H q => ?_
  obtain ⟨ι, τ, M, hs, hr, q⟩ := q
  unfold ex at q
  refine ⟨ι, τ, M, hs, hr, PostO.on q hs fun v M1 ι1 H1 w _ l1 hr1 r1 q1 => ?_⟩
  refine ⟨ι1, τ, M1, hs.mono l1, hr1, PostO.on q1 (hs.mono l1) fun v2 M2 ι2 H2 w2 _ l2 hr2 r2 q2 => ?_⟩
  exact ⟨w, w2, rfl, q2 ι2 H2 _ Le.refl hr2 (((hs.mono (l1.trans l2)).set (r1.mono l2) i).set r2 j)⟩
theorem st_expr (g : Good X G W cf ct lv) {e : Expr} {m : E} {pos : Pos} (he : PE X e (tE G W cf m)) (hl : notLc e = true) : PS X (.Expr e pos) (tSt G W cf (.expr m)) := by
  refine (ps_expr he (notLc_ok hl)).imp fun D σ H q => ?_
  obtain ⟨ι, τ, M, hs, hr, q⟩ := q
  unfold ex at q
  refine ⟨ι, τ, M, hs, hr, PostO.on q hs fun v M1 ι1 H1 w _ l1 hr1 r1 q1 => ?_⟩
  exact q1 ι1 H1 _ Le.refl hr1 (hs.mono l1)
theorem st_doc {x : Str} {j : Nat} {p pos : Pos} : PS X (.Expr (.Constant (.str x) j p) pos) (tSt G W cf .pass) := ps_doc.imp fun D σ H q => by
  obtain ⟨ι, τ, M, hs, hr, q⟩ := q
  unfold ex at q
  exact q ι H σ Le.refl hr hs
theorem st_ret {e : Expr} {m : E} {pos : Pos} (he : PE X e (tE G W cf m)) : PS X (.Return (some e) pos) (tSt G W cf (.ret m)) := by
  refine (ps_ret he).imp fun D σ H q => ?_
  obtain ⟨ι, τ, M, hs, hr, q⟩ := q
  unfold ex at q
  refine ⟨ι, τ, M, hs, hr, PostO.on q hs fun v M1 ι1 H1 w _ l1 hr1 r1 q1 => ?_⟩
  exact q1 ι1 H1 _ Le.refl hr1 r1
theorem st_retN {pos : Pos} : PS X (.Return none pos) (tSt G W cf .retN) := ps_retN.imp fun D σ H q => by
  obtain ⟨ι, τ, M, hs, hr, q⟩ := q
  unfold ex at q
  exact q ι H _ Le.refl hr .non
theorem st_pass {pos : Pos} : PS X (.Pass pos) (tSt G W cf .pass) := ps_pass.imp fun D σ H q => by
  obtain ⟨ι, τ, M, hs, hr, q⟩ := q
  unfold ex at q
  exact q ι H σ Le.refl hr hs
theorem st_brk {pos : Pos} : PS X (.Break pos) (tSt G W cf .brk) := ps_break.imp fun D σ H q => by
  obtain ⟨ι, τ, M, hs, hr, q⟩ := q
  unfold ex at q
  exact q ι H σ Le.refl hr hs
theorem st_cnt {pos : Pos} : PS X (.Continue pos) (tSt G W cf .cnt) := ps_continue.imp fun D σ H q => by
  obtain ⟨ι, τ, M, hs, hr, q⟩ := q
  unfold ex at q
  exact q ι H σ Le.refl hr hs
theorem st_if {c : Expr} {a b : List Stmt} {mc : E} {ma mb : Ss} {pos : Pos} (hc : PT X c (tT G W cf mc)) (ha : PSs X a (tSs G W cf ma)) (hb : PSs X b (tSs G W cf mb)) : PS X (.If c a b pos) (tSt G W cf (.ite mc ma mb)) := by
  refine (ps_if hc ha hb).imp fun D σ H q => ?_
  obtain ⟨ι, τ, M, hs, hr, q⟩ := q
  unfold ex at q
  refine ⟨ι, τ, M, hs, hr, ?_⟩
  have q' : PostO G W ι H D (Out.on ((ev cf mc τ M).bind fun x M1 => ofOpt (truth M1 x) M1) τ fun k M2 => if k then exs cf ma τ M2 else exs cf mb τ M2) := by
    cases h : ev cf mc τ M with
    | ok x M1 => rw [h] at q; exact q
    | exc x M1 => rw [h] at q; exact q
    | bad => rw [h] at q; exact q
  refine PostO.on q' hs fun v M1 ι1 H1 w _ l1 hr1 r1 q1 => ?_
  subst r1
  cases w with
  | true => exact ⟨ι1, τ, M1, hs.mono l1, hr1, q1⟩
  | false => exact ⟨ι1, τ, M1, hs.mono l1, hr1, q1⟩
end
end Mi
end MiRun9S

section MiRun10S
set_option Elab.async false
set_option linter.all false
set_option maxRecDepth 100000
namespace Mi
open PySem L2
section
variable {X : Cx} {G : Gs} {W : WX} {cf : Cf} {ct : Ct} {lv : Nat}
theorem sub_assign {o i : Expr} {pos : Pos} {env : Env} (h : notSlice i = true) : ∀ v, assign (.Subscript o i pos) env v = (do
      let ov ← holding [v] (eval o env)
      let iv ← holding [v, ov] (eval i env)
      standAt pos
      holding [v, ov, iv] (setItem ov iv v)
      release [v, ov, iv] []) := by
  intro v
  cases i <;> first | rfl | cases h
/-- o[i] = z, by values -/
def rSetM (G : Gs) : TSet := fun o i v H Q => ∃ ι M x y z, HR G ι M H ∧ VR G.K ι H x o ∧ VR G.K ι H y i ∧ VR G.K ι H z v ∧ (match x, y with
    | .ref n, y => match M[n]? with
      | some (.lst xs) => (match y with
        | .int k => (match place xs.length k with
          | some j => ∀ ι' H', Le ι H ι' H' → HR G ι' (M.set n (.lst (xs.set j z))) H' → Q H'
          | none => False)
        | _ => False)
      | some (.dic kvs) => if keyV y && decide (kvs.length < LIM) then ∀ ι' H', Le ι H ι' H' → HR G ι' (M.set n (.dic (dicPut kvs y z))) H' → Q H' else False
      | _ => False
    | _, _ => False)
theorem set_run (gk : G.K = X.K) (hu : X.A.units + 1 < cLine) : PSet X (rSetM G) := by
  obtain ⟨K, cl⟩ := G
  obtain rfl : K = X.K := gk
  rintro ps s σ H o i v ov iv u Q I ro ri rv ⟨ι, M, x, y, z, hr, rx, ry, rz, q⟩
  cases rx with
  | @ref n a ha =>
    simp only at q
    split at q
    · rename_i xs em
      cases ry with
      | int k =>
        simp only at q
        split at q
        · rename_i j hj
          obtain ⟨vs, e1, rvs⟩ := hr.list_at em ha
          obtain ⟨h1, h2⟩ := hr.set em ha e1 (rvs.set rz j)
          exact set_list ps s σ H _ _ v ov iv u Q I ro ri rv ⟨a, vs, k, j, rfl, rfl, e1, by rw [← rvs.length, ← place_eq]; exact hj, q ι _ h2 h1⟩
        · exact q.elim
      | _ => exact q.elim
    · rename_i kvs em
      split at q
      · rename_i c
        obtain ⟨c1, c2⟩ := Bool.and_eq_true_iff.mp c
        obtain ⟨ws, e1, rw1⟩ := hr.dic_at em ha
        obtain ⟨k, hk, rfl⟩ := key_ok ry c1
        obtain ⟨h1, h2⟩ := hr.setD em ha e1 (rw1.put hk ry rz)
        refine set_dict hu ps s σ H _ _ v ov iv u Q I ro ri rv ⟨a, _, rfl, DPut.k e1 ?_, q ι _ h2 h1⟩
        rw [← rw1.len, ← lim_eq]
        exact of_decide_eq_true c2
      · exact q.elim
    · exact q.elim
  | _ => exact q.elim
theorem st_six (g : Good X G W cf ct lv) {o i e : Expr} {mo mi me : E} {p pos : Pos} (ho : PE X o (tE G W cf mo)) (hi : PE X i (tE G W cf mi)) (he : PE X e (tE G W cf me)) (hl : notLc e = true) (ht : notTup e = true) (hn : notSlice i = true) : PS X (.Assign [.Subscript o i p] e pos) (tSt G W cf (.six mo mi me)) := by
  have hsole : swapsWithSole [.Subscript o i p] e pos.line X.env = pure false := by unfold swapsWithSole; exact notLc_ok hl
  refine (ps_asg (pos := pos) he (pg_sub (pos := p) ho hi (set_run g.gk g.hu1) (sub_assign hn)) hsole (notTup_ok ht) rfl).imp fun D σ H q => ?_
  obtain ⟨ι, τ, M, hs, hr, q⟩ := q
  unfold ex at q
  refine ⟨ι, τ, M, hs, hr, PostO.on q hs fun z M1 ι1 H1 w _ l1 hr1 r1 q1 => ?_⟩
  refine ⟨ι1, τ, M1, hs.mono l1, hr1, PostO.on q1 (hs.mono l1) fun x M2 ι2 H2 v _ l2 hr2 r2 q2 => ?_⟩
  refine ⟨ι2, τ, M2, hs.mono (l1.trans l2), hr2, PostO.on q2 (hs.mono (l1.trans l2)) fun y M3 ι3 H3 u _ l3 hr3 r3 q3 => ?_⟩
  refine ⟨ι3, M3, x, y, z, hr3, r2.mono l3, r3, r1.mono (l2.trans l3), ?_⟩
  have fin : ∀ M4, PostO G W ι3 H3 D (.nx τ M4) → ∀ ι' H', Le ι3 H3 ι' H' → HR G ι' M4 H' → D.nx σ H' := fun M4 q4 ι' H' l hr' => q4 ι' H' σ l hr' (hs.mono ((l1.trans (l2.trans l3)).trans l))
  cases x with
  | ref n =>
    simp only at q3 ⊢
    cases em : M3[n]? with
    | none => rw [em] at q3; exact q3.elim
    | some ob =>
      rw [em] at q3
      cases ob with
      | lst xs =>
        cases y with
        | int k =>
          simp only at q3 ⊢
          cases hj : place xs.length k with
          | none => rw [hj] at q3; exact q3.elim
          | some j => rw [hj] at q3; exact fin _ q3
        | _ => exact q3.elim
      | dic kvs =>
        simp only at q3 ⊢
        split at q3
        · rename_i c
          rw [if_pos c]
          exact fin _ q3
        · exact q3.elim
      | exv c => exact q3.elim
  | _ => exact q3.elim

/-! ### loops -/
theorem st_for (g : Good X G W cf ct lv) (hp : PassesOwn (model X.prog X.w) X.A X.env X.xe) {tg iter : Expr} {body : List Stmt} {pos : Pos} {src : Src} {t : Tg} {b : Ss} (hi : PI X tg iter (tS G W cf src)) (hg : PG X tg (gT G t)) (hb : PSs X body (tSs G W cf b))
    (hf : ∀ x, foldedSetIterable iter X.env x = pure x) : PS X (.For tg iter body [] pos) (tSt G W cf (.loop t src b)) := by
  refine (ps_for hp g.calm hi hg hb hf).imp fun D σ H q => ?_
  obtain ⟨ι, τ, M, hs, hr, q⟩ := q
  unfold ex at q
  refine ⟨ι, τ, M, hs, hr, PostO.onS q hs fun p M1 ι1 H1 J _ l1 hr1 w q1 => ?_⟩
  let f : Val → St → Store → Out := fun x σ1 M2 => match put t x σ1 with
      | some σ2 => exs cf b σ2 M2
      | none => .bad
  let Pv : Nat → L2.St → Hp → Prop := fun i σ H => ∃ ι τ M, Le ι1 H1 ι H ∧ SR G ι H τ σ ∧ HR G ι M H ∧ PostO G W ι H D (rounds f p.1 p.2 (p.1.drop i) τ M)
  refine ⟨fun i m σ H => m = p.1.length - i ∧ i ≤ p.1.length ∧ Pv i σ H, ⟨p.1.length, by simp, Nat.zero_le _, ι1, τ, M1, Le.refl, hs.mono l1, hr1, by rw [List.drop_zero]; exact q1⟩, ?_⟩
  rintro i m σ2 H2 ⟨rfl, hi2, ι2, τ2, M2, l2, hs2, hr2, q2⟩
  by_cases hlt : i < p.1.length
  · have ed : p.1.drop i = p.1[i] :: p.1.drop (i + 1) := List.drop_eq_getElem_cons hlt
    rw [ed] at q2
    unfold rounds at q2
    split at q2
    · rename_i hst
      refine .inr ⟨w.go ι2 H2 M2 l2 hr2 hst i hlt, Pv (i + 1), fun σ' H' p' => ⟨p.1.length - (i + 1), by omega, rfl, hlt, p'⟩, fun x H' y => ?_⟩
      obtain ⟨ly, hry, v, ev1, rv⟩ := w.yld ι2 H2 M2 l2 hr2 hst i x H' hlt y
      replace l2 := l2.trans ly
      replace hr2 := hry
      replace hs2 := hs2.mono ly
      replace q2 := PostO.mono q2 ly
      have ev2 : v = p.1[i] := by rw [List.getElem?_eq_getElem hlt] at ev1; exact (Option.some.inj ev1).symm
      subst ev2
      cases hp2 : put t p.1[i] τ2 with
      | none =>
        have hf : f p.1[i] τ2 M2 = .bad := by
          show (match put t p.1[i] τ2 with | some σ2 => exs cf b σ2 M2 | none => Out.bad) = _
          rw [hp2]
        rw [hf] at q2
        exact q2.elim
      | some τ3 =>
        have hf : f p.1[i] τ2 M2 = exs cf b τ3 M2 := by
          show (match put t p.1[i] τ2 with | some σ2 => exs cf b σ2 M2 | none => Out.bad) = _
          rw [hp2]
        rw [hf] at q2
        refine put_ok hp2 rv hs2 fun σ3 hs3 _ => ⟨ι2, τ3, M2, hs3, hr2, ?_⟩
        cases h : exs cf b τ3 M2 with
        | nx τ4 M4 =>
          rw [h] at q2
          exact fun ι' H' σ' l hr' hs' => ⟨ι', τ4, M4, l2.trans l, hs', hr', PostO.mono q2 l⟩
        | cnt τ4 M4 =>
          rw [h] at q2
          exact fun ι' H' σ' l hr' hs' => ⟨ι', τ4, M4, l2.trans l, hs', hr', PostO.mono q2 l⟩
        | ret v M4 => rw [h] at q2; exact q2
        | brk τ4 M4 => rw [h] at q2; exact q2
        | exc x τ4 M4 => rw [h] at q2; exact q2
        | bad => rw [h] at q2; exact q2
    · exact q2.elim
  · have e1 : i = p.1.length := by omega
    subst e1
    rw [List.drop_length] at q2
    unfold rounds at q2
    split at q2
    · rename_i hst
      exact .inl ⟨w.stop ι2 H2 M2 l2 hr2 hst, q2 ι2 H2 σ2 Le.refl hr2 hs2⟩
    · exact q2.elim
theorem st_while (g : Good X G W cf ct lv) (hp : PassesOwn (model X.prog X.w) X.A X.env X.xe) {c : Expr} {body : List Stmt} {pos : Pos} {mc : E} {b : Ss} (hc : PT X c (tT G W cf mc)) (hb : PSs X body (tSs G W cf b)) : PS X (.While c body [] pos) (tSt G W cf (.whl mc b)) := by
  refine (ps_while hp hc hb).imp fun D σ H q => ?_
  obtain ⟨ι, τ, M, hs, hr, q⟩ := q
  unfold ex at q
  let tf : St → Store → Res Bool := fun σ1 M1 => (ev cf mc σ1 M1).bind fun x M2 => ofOpt (truth M2 x) M2
  let f : St → Store → Out := fun σ1 M1 => exs cf b σ1 M1
  let Pv : Nat → L2.St → Hp → Prop := fun m σ H => ∃ ι τ M, SR G ι H τ σ ∧ HR G ι M H ∧ PostO G W ι H D (whiles tf f m τ M)
  refine ⟨Pv, ⟨WHL, ι, τ, M, hs, hr, q⟩, ?_⟩
  rintro m σ1 H1 ⟨ι1, τ1, M1, hs1, hr1, q1⟩
  cases m with
  | zero => exact q1.elim
  | succ m =>
    unfold whiles at q1
    refine ⟨ι1, τ1, M1, hs1, hr1, PostO.on q1 hs1 fun k M2 ι2 H2 k2 _ l2 hr2 e2 q2 => ?_⟩
    subst e2
    cases k2 with
    | false => exact q2 ι2 H2 σ1 Le.refl hr2 (hs1.mono l2)
    | true =>
      simp only [if_true] at q2 ⊢
      refine ⟨Pv m, fun σ' H' z => ⟨m, Nat.lt_succ_self m, z⟩, ι2, τ1, M2, hs1.mono l2, hr2, ?_⟩
      have e : f τ1 M2 = exs cf b τ1 M2 := rfl
      rw [e] at q2
      cases h : exs cf b τ1 M2 with
      | nx τ4 M4 =>
        rw [h] at q2
        exact fun ι' H' σ' l hr' hs' => ⟨ι', τ4, M4, hs', hr', PostO.mono q2 l⟩
      | cnt τ4 M4 =>
        rw [h] at q2
        exact fun ι' H' σ' l hr' hs' => ⟨ι', τ4, M4, hs', hr', PostO.mono q2 l⟩
      | ret v M4 => rw [h] at q2; exact q2
      | brk τ4 M4 => rw [h] at q2; exact q2
      | exc x τ4 M4 => rw [h] at q2; exact q2
      | bad => rw [h] at q2; exact q2
end
end Mi
end MiRun10S

section MiRun11S
set_option Elab.async false
set_option linter.all false
set_option maxRecDepth 100000
namespace Mi
open PySem L2
/-! ### dict displays -/
def flatP : List (V × V) → List V
  | [] => []
  | (k, v) :: r => k :: v :: flatP r
theorem keys_unlike {x y : Val} {k l : Key} (hx : keyOf x = some k) (hy : keyOf y = some l) (h : keyE x y = false) : k ≠ l := by
  intro e
  subst e
  cases x <;> cases y <;> simp [keyOf] at hx hy
  · rename_i i j
    rw [← hy] at hx
    have : i = j := by simpa using hx
    simp [keyE, this] at h
  · rw [← hy] at hx; cases hx
  · rw [← hy] at hx; cases hx
  · rename_i s t
    rw [← hy] at hx
    have : toS s = toS t := by simpa using hx
    simp [keyE, toS_inj this] at h
theorem kvs_ok {K : PySem.W.Frag} {ι : List Addr} {H : Hp} : ∀ {ps : List (V × V)} {xs : List Val}, VRs K ι H xs (flatP ps) → keysOk (pairUp xs) = true →
    ∃ ws : List (Key × V), ps = ws.map (fun kv => (kV kv.1, kv.2)) ∧ KVs K ι H (pairUp xs) ws ∧ (∀ w ∈ ws, ∃ p ∈ pairUp xs, keyOf p.1 = some w.1) ∧ (ws.map (·.1)).Nodup
  | [], xs, r, _ => by
    cases r
    exact ⟨[], rfl, .nil, fun _ h => by simp at h, by simp⟩
  | (a, b) :: ps, xs, r, h => by
    cases r with
    | cons r1 r2 =>
      cases r2 with
      | cons r2 r3 =>
        simp only [pairUp, keysOk, Bool.and_eq_true] at h
        obtain ⟨⟨h1, h2⟩, h3⟩ := h
        obtain ⟨ws, e1, e2, e3, e4⟩ := kvs_ok r3 h3
        obtain ⟨k, hk, rfl⟩ := key_ok r1 h1
        refine ⟨(k, b) :: ws, by rw [e1]; rfl, .cons ⟨⟨hk, r1⟩, r2⟩ e2, fun w hw => ?_, ?_⟩
        · rcases List.mem_cons.mp hw with rfl | hw
          · exact ⟨_, List.mem_cons_self, hk⟩
          · obtain ⟨p, hp, q⟩ := e3 w hw
            exact ⟨p, List.mem_cons_of_mem _ hp, q⟩
        · rw [List.map_cons, List.nodup_cons]
          refine ⟨fun z => ?_, e4⟩
          obtain ⟨w, hw, ew⟩ := List.mem_map.mp z
          obtain ⟨p, hp, q⟩ := e3 w hw
          have := List.all_eq_true.mp h2 p hp
          exact keys_unlike hk q (by simpa using this) ew.symm
theorem merge_all : ∀ (ws acc : List (Key × V)), ((acc ++ ws).map (·.1)).Nodup → mergeK acc ws = acc ++ ws
  | [], acc, _ => by simp [mergeK]
  | w :: ws, acc, h => by
    have hk : (acc.any fun kv => decide (kv.1 = w.1)) = false := by
      rw [List.any_eq_false]
      intro p hp z
      have z' : p.1 = w.1 := by simpa using z
      rw [List.map_append, List.nodup_append] at h
      exact h.2.2 p.1 (List.mem_map_of_mem hp) w.1 (by simp) z'
    have e : putK acc w.1 w.2 = acc ++ [w] := by
      unfold putK
      rw [hk]; rfl
    show mergeK (putK acc w.1 w.2) ws = _
    rw [e, merge_all ws (acc ++ [w]) (by simpa using h)]
    simp
section
variable {X : Cx} {G : Gs} {W : WX} {cf : Cf} {ct : Ct} {lv : Nat}
def trsOf (G : Gs) (W : WX) (cf : Cf) : List (E × E) → List (TE × TE)
  | [] => []
  | (k, v) :: r => (tE G W cf k, tE G W cf v) :: trsOf G W cf r
def flatE : List (E × E) → Es
  | [] => .nil
  | (k, v) :: r => .cons k (.cons v (flatE r))
abbrev RPs (G : Gs) : List Addr → Hp → List Val → List (V × V) → Prop := fun ι H xs ps => VRs G.K ι H xs (flatP ps)
theorem pairs_run {σ : L2.St} : ∀ {ms : List (E × E)} {ι : List Addr} {τ : St} {M : Store} {H : Hp} {Q : List (V × V) → Hp → Prop}, SR G ι H τ σ → HR G ι M H → Post G W σ ι H (RPs G) Q (evs cf (flatE ms) τ M) → tPairs (trsOf G W cf ms) σ H Q
  | [], ι, τ, M, H, Q, hs, hr, q => by
    unfold flatE evs at q
    exact q.here hr .nil
  | (k, v) :: r, ι, τ, M, H, Q, hs, hr, q => by
    unfold flatE at q
    unfold evs at q
    refine ⟨ι, τ, M, hs, hr, q.bind fun x M1 ι1 H1 xv _ l1 hr1 r1 q1 => ?_⟩
    have q1' : Post G W σ ι1 H1 (RPs G) Q ((ev cf v τ M1).bind fun y M2 => (evs cf (flatE r) τ M2).bind fun ys M3 => .ok (x :: y :: ys) M3) := by
      unfold evs at q1
      cases h : ev cf v τ M1 with
      | ok y M2 =>
        rw [h] at q1
        simp only [Res.bind_ok] at q1 ⊢
        cases h2 : evs cf (flatE r) τ M2 <;> (rw [h2] at q1; exact q1)
      | exc e M2 => rw [h] at q1; exact q1
      | bad => rw [h] at q1; exact q1
    refine ⟨ι1, τ, M1, hs.mono l1, hr1, q1'.bind fun y M2 ι2 H2 yv _ l2 hr2 r2 q2 => ?_⟩
    refine pairs_run (hs.mono (l1.trans l2)) hr2 ?_
    refine q2.bind fun ys M3 ι3 H3 ps _ l3 hr3 r3 q3 => ?_
    exact q3.here hr3 (.cons ((r1.mono l2).mono l3) (.cons (r2.mono l3) r3))
/-- an object of ours, new, where something new stood -/
theorem mine_post {σ : L2.St} {ι ι1 : List Addr} {H H1 : Hp} {M1 : Store} {Q : VK} {o : Obj} (q : Post G W σ ι H (RV G) Q (.ok (.ref M1.length) (M1 ++ [o]))) (l : Le ι H ι1 H1) (hr : HR G ι1 M1 H1) {D : Addr} (h0 : H D = none) (np : D ∉ ι1) (ho : OR G (ι1 ++ [D]) H1 o D) : Q (.ref D) H1 := by
  have l2 : Le ι H (ι1 ++ [D]) H1 := by
    obtain ⟨t, e, ft⟩ := l.more
    refine ⟨⟨t ++ [D], by rw [e]; simp, fun a ha => ?_⟩, l.ext, l.dom, l.keep⟩
    rcases List.mem_append.mp ha with ha | ha
    · exact ft a ha
    · simp at ha; rw [ha]; exact h0
  refine q (ι1 ++ [D]) H1 (.ref D) l2 (hr.mine np ho) (.ref ?_)
  rw [← hr.len]; simp
theorem KVs.more {K : PySem.W.Frag} {ι t : List Addr} {H : Hp} {ks : List (Val × Val)} {ws : List (Key × V)} (h : KVs K ι H ks ws) : KVs K (ι ++ t) H ks ws := L2.Paired.mapP h fun _ _ q => ⟨⟨q.1.1, VR.more q.1.2⟩, VR.more q.2⟩
theorem KVs.ext {K : PySem.W.Frag} {ι : List Addr} {H H' : Hp} (l : Ext H H') {ks : List (Val × Val)} {ws : List (Key × V)} (h : KVs K ι H ks ws) : KVs K ι H' ks ws := L2.Paired.mapP h fun _ _ q => ⟨⟨q.1.1, VR.ext l q.1.2⟩, VR.ext l q.2⟩
theorem KVs.length {K : PySem.W.Frag} {ι : List Addr} {H : Hp} {ks : List (Val × Val)} {ws : List (Key × V)} (h : KVs K ι H ks ws) : ks.length = ws.length := by
  unfold KVs at h
  induction h with
  | nil => rfl
  | cons _ _ ih => simp [ih]
theorem evs_flat_len {ms : List (E × E)} : (flatE ms).len = 2 * ms.length := by
  induction ms with
  | nil => rfl
  | cons p r ih => obtain ⟨k, v⟩ := p; simp [flatE, Es.len, ih]; omega
theorem pairUp_len : ∀ xs : List Val, (pairUp xs).length = xs.length / 2
  | [] => rfl
  | [x] => by simp [pairUp]
  | x :: y :: r => by simp [pairUp, pairUp_len r]; omega
theorem e_dic (g : Good X G W cf ct lv) {pos : Pos} {keys : List (Option Expr)} {values : List Expr} {ms : List (E × E)} (h : PPs X pos keys values (trsOf G W cf ms)) (hall : keys.all (·.isSome) = true) (hl : keys.length = values.length) (h0 : keys ≠ []) (h15 : keys.length ≤ 15) (hm : ms.length ≤ 15) :
    PE X (.Dict keys values pos) (tE G W cf (.dic (flatE ms))) := by
  refine (pe_disp h hall hl h0 h15).imp fun σ H Q q => ?_
  obtain ⟨ι, τ, M, hs, hr, q⟩ := q
  unfold ev at q
  intro p hp
  have l1 : Le ι H ι (upd H p (.dK [])) := Le.new hp
  have np := hr.ne hp
  refine pairs_run (hs.mono l1) (hr.new hp) ?_
  cases hev : evs cf (flatE ms) τ M with
  | bad => rw [hev] at q; exact q.elim
  | exc x M1 =>
    rw [hev] at q
    exact fun ι' H' c d l' => q ι' H' c d (l1.trans l')
  | ok xs M1 =>
    rw [hev] at q
    simp only [Res.bind_ok] at q
    intro ι2 H2 ps l2 hr2 rp
    have np2 : p ∉ ι2 := fun z => by
      obtain ⟨tl, rfl, ft⟩ := l2.more
      rcases List.mem_append.mp z with z | z
      · exact np z
      · have := ft p z
        rw [upd_same] at this; cases this
    have e2 : H2 p = some (.dK []) := l2.keep _ _ upd_same np
    refine ⟨e2, ?_⟩
    split at q
    · rename_i hk
      obtain ⟨ws, ew, hkv, _, hnd⟩ := kvs_ok rp hk
      have hlen : ws.length ≤ 15 := by
        rw [← hkv.length, pairUp_len, evs_len hev, evs_flat_len]
        omega
      refine ⟨ws, ew, hlen, ?_⟩
      rw [merge_all ws [] (by simpa using hnd), List.nil_append]
      have mD : L2.Mut (H2 p) := mut_dK e2
      have l3 : Le ι H ι2 (upd H2 p (.dK ws)) := (l1.trans l2).acc hp mD
      exact mine_post q l3 (hr2.other mD np2) hp np2 ⟨ws, upd_same, (hkv.ext (Ext.mut mD)).more⟩
    · exact q.elim
/-! ### exception values -/
theorem e_newx (g : Good X G W cf ct lv) {x : Str} {c : Nat} {p pos : Pos} (hx : ct.gl x = some (.exc c)) (hg : glB ct.sc x = true) (hd : (x == ("__debug__" : Str)) = false) : PE X (.Call (.Name x p) [] [] pos) (tE G W cf (.newx c)) := by
  have A := g.exc x c hx
  obtain ⟨bmB, B, newId, initId, F, qi⟩ := A.inn
  have key : PE X (.Call (.Name x p) [] [] pos) (fun σ H Q => ∀ t a, H t = none → H a = none → a ≠ t → Q (.ref a) (upd (upd H t (.tup [])) a (ExA (.ref (G.cls c)) t a))) := by
    refine ⟨fun pins s σ H Q I h => ?_⟩
    refine wpAny_Call_Name_kw (ld_glob I (glB_ok g.sc hg) A.mg ?_ hd)
    refine PySem.W.callWith_K0 I.kIn A.kp ?_
    obtain ⟨bm, N, nm, qn, bs, hdct, sn, sub, ab, col, dd, k0, k1, k2, k3, k5, mN, hC, hN, hni, T⟩ := exc_obj I.kIn qi
    refine wpAny_call_exc_subT F T hC hN hni (fun h' a hm => ?_) (by show 0 ≤ sizeLine; exact Nat.zero_le _)
    have hn : H a = none := I.hok.gone hm.new
    obtain ⟨t, ht, h1, h2⟩ := hm.there
    have nt : H t = none := I.hok.gone h1
    have na : a ≠ t := fun z => by
      rw [z, h2] at ht
      cases ht
    obtain ⟨B, b1, b2⟩ := restrict h' fun b => decide (b ≠ a)
    have k1 : ∀ b u, s.heap.get? b = some u → B.get? b = some u := fun b u e => by
      have nb : b ≠ a := fun z => by rw [z, hm.new] at e; cases e
      rw [b1 b (decide_eq_true nb)]
      exact hm.keeps b u e
    have k2 : ∀ b u, B.get? b = some u → h'.get? b = some u := fun b u e => by
      have nb : b ≠ a := fun z => by rw [z, b2 a (decide_eq_false fun q => q rfl)] at e; cases e
      rw [← b1 b (decide_eq_true nb)]
      exact e
    have tB : B.get? t = some { cls := .type "tuple", data := .seq ([] : List Value).toArray } := by
      rw [b1 t (decide_eq_true fun z => na z.symm)]
      exact h2
    have J1 := I.laidN (o := .tup []) (t' := s.toks) k1 h1 nt ⟨Nat.zero_le _, [], .nil, ⟨_, tB, rfl, _, rfl⟩⟩
    have n2 : upd H t (.tup []) a = none := by rw [upd_ne na]; exact hn
    have J2 := J1.laidN (o := ExA (.ref (G.cls c)) t a) (t' := s.toks) k2 (b2 a (decide_eq_false fun q => q rfl)) n2 (exA_ok ht ⟨rfl, rfl⟩ rfl rfl rfl rfl (show 4 < 6 by decide))
    exact ⟨.ref a, _, J2, rfl, h t a nt hn na⟩
  refine key.imp fun σ H Q q => ?_
  obtain ⟨ι, τ, M, hs, hr, q⟩ := q
  unfold ev at q
  intro t a ht ha na
  have n2 : upd H t (.tup []) a = none := by rw [upd_ne na]; exact ha
  refine mine_post q ((Le.new ht).trans (Le.new n2)) ((hr.new ht).new n2) ha (hr.ne ha) ⟨t, upd_same, ?_⟩
  rw [upd_ne (fun z => na z.symm)]
  exact upd_same
/-! ### list(x) -/
def rLst (G : Gs) (W : WX) : List V → Hp → VK → Prop := fun us H Q => ∃ σ ι M a v, us = [v] ∧ HR G ι M H ∧ VR G.K ι H a v ∧ PostL G W σ ι H Q (match a with
    | .tup xs => .ok xs M
    | .frz xs => .ok xs M
    | .ref n => match M[n]? with
      | some (.lst xs) => .ok xs M
      | _ => .bad
    | _ => .bad)
theorem lst_run (g : Good X G W cf ct lv) : CallR X (.type "list") (rLst G W) := by
  rintro ps s σ' H us ws Q I r ⟨σ, ι, M, a, v, rfl, hr, ra, q⟩
  have gk := g.gk
  cases ra with
  | tup hT rr => exact call_list_of ps s σ' H _ ws Q I r ⟨_, _, rfl, .inr (by rw [← gk]; exact hT), fun l hl => q.make hr rr hl⟩
  | frz hT rr => exact call_list_of ps s σ' H _ ws Q I r ⟨_, _, rfl, .inl (by rw [← gk]; exact hT.sq), fun l hl => q.make hr rr hl⟩
  | ref ha =>
    simp only at q
    split at q
    · rename_i em
      obtain ⟨vs, h1, h2⟩ := hr.sq_at em ha
      exact call_list_of ps s σ' H _ ws Q I r ⟨_, _, rfl, .inl (by rw [← gk]; exact h1), fun l hl => q.make hr h2 hl⟩
    · exact q.elim
  | _ => exact q.elim
theorem l_list (g : Good X G W cf ct lv) {a : Expr} {m : E} {p pos : Pos} (ha : PE X a (tE G W cf m)) (hn : notStar a = true) (hg : glB ct.sc "list" = true) (hb : ct.gl "list" = some .blt) : PE X (.Call (.Name "list" p) [a] [] pos) (tL G W cf (.list m)) := by
  refine (pe_callTy (lst_run (W := W) g) (glB_ok g.sc hg) (g.blt _ hb) PyProof.Rows.boot_list (pa_cons ha pa_nil (star_ok hn)) (by decide +kernel) (by decide +kernel) (star_ok hn) (stars_ok (es := []) rfl)).imp fun σ H Q q => ?_
  obtain ⟨ι, τ, M, hs, hr, q⟩ := q
  unfold evL at q
  refine ⟨ι, τ, M, hs, hr, Post.bindL q fun x M1 ι1 H1 v _ l1 hr1 r1 q1 => ?_⟩
  exact ⟨σ, ι1, M1, x, v, rfl, hr1, r1, q1⟩
end
end Mi
end MiRun11S

section MiRunAS
set_option Elab.async false
set_option linter.all false
set_option maxRecDepth 100000
namespace Mi
open PySem L2
section
variable {X : Cx} {G : Gs} {W : WX} {cf : Cf} {ct : Ct} {lv : Nat}
/-! ### among a fresh list -/
theorem any_pd : ∀ {xs : List Val} {x : Val}, noRefs xs = true → noRef x = true → ((pds xs).any fun z => PyData.eqv z (pd x)) = xs.any fun z => eqV z x
  | [], x, _, _ => by simp [pds]
  | y :: ys, x, h, hx => by
    have h' : noRef y = true ∧ noRefs ys = true := by simpa [noRefs] using h
    simp only [pds, List.any_cons]
    rw [eqv_pd y x h'.1 hx, any_pd h'.2 hx]
theorem inl_read (g : Good X G W cf ct lv) {ma : E} {l : L} {neg : Bool} : ∀ {σ : L2.St} {H : Hp} {Q : VK}, tE G W cf (.inl neg ma l) σ H Q → tOp (fun x y H Q => ∃ d ds, Dp X.K H x d ∧ Dp X.K H y (.list ds) ∧ SeqAt.shaped d = true ∧ SeqAt.shaped (.list ds) = true ∧ Q (.bl (if neg then !(ds.any fun z => PyData.eqv z d) else ds.any fun z => PyData.eqv z d)) H) (tE G W cf ma) (tL G W cf l) σ H Q := by
    have gk := g.gk
    intro σ H Q q
    obtain ⟨ι, τ, M, hs, hr, q⟩ := q
    unfold ev at q
    refine ⟨ι, τ, M, hs, hr, q.bind fun x M1 ι1 H1 v _ l1 hr1 r1 q1 => ?_⟩
    refine ⟨ι1, τ, M1, hs.mono l1, hr1, PostL.bind q1 fun xs M2 ι2 H2 w _ l2 hr2 f2 q2 => ?_⟩
    obtain ⟨D, vs, rfl, hD, rv, np, h0⟩ := f2
    obtain ⟨k, e, q3⟩ := q2.opt
    obtain ⟨b, e2, rfl⟩ := Option.map_eq_some_iff.mp e
    unfold inl1 at e2
    split at e2
    · rename_i c
      have c' : ((noRef x = true ∧ noRefs xs = true) ∧ depth x ≤ 60) ∧ depths xs ≤ 59 := by simpa using c
      cases e2
      have r1' := r1.mono l2
      have z1 := r1'.dp c'.1.1.1
      have z2 := VRs.dp rv c'.1.1.2
      refine ⟨pd x, pds xs, by rw [← gk]; exact z1.1, by rw [← gk]; exact .lst (SqL.of hD) z2.1, r1'.shaped c'.1.1.1 c'.1.2, ?_, ?_⟩
      · have hd : (PyData.list (pds xs)).depth ≤ 64 := by
          simp only [PyData.depth]
          rw [pds_depth]
          omega
        have hc : (PyData.list (pds xs)).canLay0 = true := by
          simp only [PyData.canLay0]
          exact z2.2
        unfold SeqAt.shaped
        rw [hc, Bool.true_and]
        exact decide_eq_true hd
      · rw [any_pd c'.1.1.2 c'.1.1.1]
        exact q3.here hr2 (.bl _)
    · cases e2
theorem e_inl (g : Good X G W cf ct lv) {a b : Expr} {ma : E} {l : L} {neg : Bool} {pos : Pos} (ha : PE X a (tE G W cf ma)) (hb : PE X b (tL G W cf l)) (hn : notSet b = true) : PE X (.Compare a [if neg then .NotIn else .In] [b] pos) (tE G W cf (.inl neg ma l)) := by
  have hu : X.A.units + 65 < cLine := by have := g.room.un; omega
  cases neg with
  | false => exact (pe_cmpR (op_inD hu) ha hb (notSet_ok hn)).imp fun σ H Q q => inl_read g q
  | true => exact (pe_cmpR (op_notInD hu) ha hb (notSet_ok hn)).imp fun σ H Q q => inl_read g q
theorem t_inl (g : Good X G W cf ct lv) {a b : Expr} {ma : E} {l : L} {neg : Bool} {pos : Pos} (ha : PE X a (tE G W cf ma)) (hb : PE X b (tL G W cf l)) (hn : notSet b = true) : PT X (.Compare a [if neg then .NotIn else .In] [b] pos) (tT G W cf (.inl neg ma l)) := by
  have hu : X.A.units + 65 < cLine := by have := g.room.un; omega
  have key : ∀ {σ : L2.St} {H : Hp} {Q : Bool → Hp → Prop}, tT G W cf (.inl neg ma l) σ H Q → tE G W cf (.inl neg ma l) σ H (fun x H' => ∃ k, x = .bl k ∧ Q k H') := by
    intro σ H Q q
    obtain ⟨ι, τ, M, hs, hr, q⟩ := q
    refine ⟨ι, τ, M, hs, hr, q.bind fun x M1 ι1 H1 v e1 l1 hr1 r1 q1 => ?_⟩
    obtain ⟨k, e, q2⟩ := q1.opt
    unfold ev at e1
    have isb : ∃ b, x = .bl b := by
      cases h1 : ev cf ma τ M with
      | ok x1 M2 =>
        rw [h1] at e1
        cases h2 : evL cf l τ M2 with
        | ok x2 M3 =>
          simp only [Res.bind_ok, h2] at e1
          cases h3 : inl1 neg x1 x2 with
          | none => rw [h3] at e1; cases e1
          | some b => rw [h3] at e1; cases e1; exact ⟨b, rfl⟩
        | exc => simp only [Res.bind_ok, h2] at e1; cases e1
        | bad => simp only [Res.bind_ok, h2] at e1; cases e1
      | exc => rw [h1] at e1; cases e1
      | bad => rw [h1] at e1; cases e1
    obtain ⟨b, rfl⟩ := isb
    cases r1
    cases e
    exact ⟨_, rfl, q2.here hr1 rfl⟩
  cases neg with
  | false => exact (pt_cmpR (op_inD hu) ha hb (notSet_ok hn)).imp fun σ H Q q => inl_read g (key q)
  | true => exact (pt_cmpR (op_notInD hu) ha hb (notSet_ok hn)).imp fun σ H Q q => inl_read g (key q)
/-! ### built-in functions of two -/
def binN : Bn → Str
  | .min => "min" | .max => "max"
theorem e_bin (g : Good X G W cf ct lv) {a b : Expr} {ma mb : E} {f : Bn} {p pos : Pos} (ha : PE X a (tE G W cf ma)) (hb : PE X b (tE G W cf mb)) (hna : notStar a = true) (hnb : notStar b = true) (hg : glB ct.sc (binN f) = true) (hf : ct.gl (binN f) = some .blt) :
    PE X (.Call (.Name (binN f) p) [a, b] [] pos) (tE G W cf (.bin f ma mb)) := by
  have key : ∀ {σ : L2.St} {H : Hp} {Q : VK}, tE G W cf (.bin f ma mb) σ H Q → tCB (fun xs H Q => ∃ i j, xs = [.int i, .int j] ∧ Q (.int (match f with | .min => if j < i then j else i | .max => if j > i then j else i)) H) (tCons (tE G W cf ma) (tCons (tE G W cf mb) tNil)) σ H Q := by
    intro σ H Q q
    obtain ⟨ι, τ, M, hs, hr, q⟩ := q
    unfold ev at q
    refine ⟨ι, τ, M, hs, hr, q.bind fun x M1 ι1 H1 v _ l1 hr1 r1 q1 => ?_⟩
    refine ⟨ι1, τ, M1, hs.mono l1, hr1, q1.bind fun y M2 ι2 H2 w _ l2 hr2 r2 q2 => ?_⟩
    unfold bin1 at q2
    split at q2
    · cases r1; cases r2
      exact ⟨_, _, rfl, q2.here hr2 (.int _)⟩
    · cases r1; cases r2
      exact ⟨_, _, rfl, q2.here hr2 (.int _)⟩
    · exact q2.elim
  cases f with
  | min => exact (pe_callB (call_min2 g.calm) (glB_ok g.sc hg) (g.blt _ hf) PyProof.Rows.boot_min (pa_cons ha (pa_cons hb pa_nil (star_ok hnb)) (star_ok hna)) (by decide +kernel) (by decide +kernel) (star_ok hna) (stars_ok (es := [b]) (by simp [hnb]))).imp fun σ H Q q => key q
  | max => exact (pe_callB (call_max2 g.calm) (glB_ok g.sc hg) (g.blt _ hf) PyProof.Rows.boot_max (pa_cons ha (pa_cons hb pa_nil (star_ok hnb)) (star_ok hna)) (by decide +kernel) (by decide +kernel) (star_ok hna) (stars_ok (es := [b]) (by simp [hnb]))).imp fun σ H Q q => key q
/-! ### join of a list that is ours -/
theorem e_joinv (g : Good X G W cf ct lv) {a b : Expr} {ma mb : E} {ap cp : Pos} (ha : PE X a (tE G W cf ma)) (hb : PE X b (tE G W cf mb)) (hc : notCall0 a = true) (hl : (ap.endLine == cp.line) = true) (hn : notStar b = true) :
    PE X (.Call (.Attribute a "join" ap) [b] [] cp) (tE G W cf (.joinv ma mb)) := by
  refine (pe_bm PySem.F.plainAttrs_str PySem.F.slot_str_join PySem.F.type_str_join mt_join ha (pa_cons hb pa_nil (star_ok hn)) (base_ok hc) (few1 hn) hl (star_ok hn) (stars_ok (es := []) rfl)).imp fun σ H Q q => ?_
  obtain ⟨ι, τ, M, hs, hr, q⟩ := q
  unfold ev at q
  refine ⟨ι, τ, M, hs, hr, q.bind fun x M1 ι1 H1 v _ l1 hr1 r1 q1 => ?_⟩
  cases r1 with
  | str sep hsep =>
    refine ⟨rfl, ι1, τ, M1, hs.mono l1, hr1, Post.bind q1 fun y M2 ι2 H2 w _ l2 hr2 r2 q2 => ?_⟩
    cases r2 with
    | ref hn2 =>
      simp only at q2
      split at q2
      · rename_i xs em
        obtain ⟨vs, h1, h2⟩ := hr2.sq_at em hn2
        split at q2
        · rename_i zs e
          obtain ⟨h3, h4⟩ := strs_ok h2 e
          subst h3
          split at q2
          · rename_i c
            refine ⟨toS sep, _, zs.map toS, rfl, rfl, .inl (by rw [← g.gk]; exact h1), ?_, ?_⟩
            · rw [toS_length, List.length_map, List.map_map]
              have e2 : (Str.length ∘ toS) = List.length := by funext z; exact toS_length z
              rw [e2]
              exact c
            · rw [join_toS]
              exact q2.here hr2 (.str _ (okS_joined hsep h4 c))
          · exact q2.elim
        · exact q2.elim
      · exact q2.elim
    | _ => exact q2.elim
  | _ => exact q1.elim
/-! ### methods of lists -/
def mdN : Md → Str
  | .pop => "pop" | .append => "append" | .insert => "insert"
def mdId : Md → String
  | .pop => "list.pop" | .append => "list.append" | .insert => "list.insert"
def rMd (G : Gs) (W : WX) (m : Md) : V → List V → Hp → VK → Prop := fun x us H Q => ∃ σ ι M a xs, HR G ι M H ∧ VR G.K ι H a x ∧ VRs G.K ι H xs us ∧ Post G W σ ι H (RV G) Q (mtd1 m a xs M)
theorem place_lt {n k : Nat} {i : Int} (h : place n i = some k) : seqIndex? i n = some k ∧ k < n ∧ -(n : Int) ≤ i ∧ i < n := ixN_seq (by rw [← place_eq]; exact h)
theorem VRs.eraseIdx {K : PySem.W.Frag} {ι : List Addr} {H : Hp} {xs : List Val} {vs : List V} (h : VRs K ι H xs vs) (k : Nat) : VRs K ι H (xs.eraseIdx k) (vs.eraseIdx k) := by
  induction xs generalizing vs k with
  | nil => cases h; simp; exact .nil
  | cons y xs ih => cases h with
    | cons hh t =>
      cases k with
      | zero => exact t
      | succ k => exact .cons hh (ih t k)
theorem VRs.dropLast {K : PySem.W.Frag} {ι : List Addr} {H : Hp} {xs : List Val} {vs : List V} (h : VRs K ι H xs vs) : VRs K ι H xs.dropLast vs.dropLast := by
  rw [List.dropLast_eq_take, List.dropLast_eq_take, h.length]
  exact h.take _
theorem md_run (hls : sizeLine < 2 ^ 63) (m : Md) : MtR X (mdId m) (rMd G W m) := by
  rintro ps s σ' H x us v ws Q I rx rs ⟨σ, ι, M, a, xs, hr, ra, rxs, q⟩
  unfold mtd1 at q
  split at q
  · cases ra with
    | @ref n ad hn =>
      split at q
      · rename_i ys em
        obtain ⟨vs, e1, rv⟩ := hr.list_at em hn
        split at q
        · cases rxs with
          | cons ry rn =>
            cases rn
            split at q
            · rename_i c
              refine mt_append ps s σ' H _ _ v ws Q I rx rs ⟨_, vs, _, rfl, rfl, e1, by rw [← rv.length, ← lim_eq]; exact c, ?_⟩
              obtain ⟨h1, h2⟩ := hr.set em hn e1 (rv.append (.cons ry .nil))
              exact q ι _ _ h2 h1 .non
            · exact q.elim
        · rename_i i
          cases rxs with
          | cons ry rn =>
            cases rn
            cases ry
            split at q
            · rename_i k hk
              split at q
              · rename_i y hy
                obtain ⟨w, ew, rw1⟩ := rv.get hy
                obtain ⟨p1, p2, p3, p4⟩ := place_lt hk
                have hl := (I.lstM e1).1
                have hv := rv.length
                refine mt_popAt ps s σ' H _ _ v ws Q I rx rs ⟨_, vs, i, k, w, rfl, rfl, e1, by omega, by omega, by rw [← hv]; exact p1, ew, ?_⟩
                obtain ⟨h1, h2⟩ := hr.set em hn e1 (rv.eraseIdx k)
                exact q ι _ _ h2 h1 (rw1.mono h2)
              · exact q.elim
            · exact q.elim
        · cases rxs
          split at q
          · rename_i y hy
            obtain ⟨w, ew, rw1⟩ := rv.get hy
            refine mt_pop ps s σ' H _ _ v ws Q I rx rs ⟨_, vs, w, rfl, rfl, e1, by rw [← rv.length]; exact ew, ?_⟩
            obtain ⟨h1, h2⟩ := hr.set em hn e1 rv.dropLast
            exact q ι _ _ h2 h1 (rw1.mono h2)
          · exact q.elim
        · rename_i i y
          cases rxs with
          | cons ri rn =>
            cases ri
            cases rn with
            | cons ry rn =>
              cases rn
              split at q
              · rename_i c
                have c' : (0 ≤ i ∧ i < 2 ^ 63) ∧ ys.length < LIM := by simpa using c
                refine mt_insert ps s σ' H _ _ v ws Q I rx rs ⟨_, vs, i, _, rfl, rfl, e1, by rw [← rv.length, ← lim_eq]; exact c'.2, c'.1.1, c'.1.2, ?_⟩
                obtain ⟨h1, h2⟩ := hr.set em hn e1 (((rv.take i.toNat).append (.cons ry .nil)).append (rv.drop i.toNat))
                exact q ι _ _ h2 h1 .non
              · exact q.elim
        · exact q.elim
      · exact q.elim
  · exact q.elim
theorem fewN {env : Env} {es : List Expr} {cp : Pos} (h : es.all notStar = true) (hl : es.length < 20) : ((backTo cp (starEach es env)).all (fun x => !x.1) && (backToKw cp (keywordEach [] env)).all (fun x => x.1.isSome)
      && decide (es.length + ([] : List Keyword).length + (if ([] : List Keyword).isEmpty then 0 else 1) < 30)) = true := by
  have h1 : (backTo cp (starEach es env)).any (·.1) = false := stars_ok h
  have h2 : (backTo cp (starEach es env)).all (fun x => !x.1) = true := by
    rw [List.all_eq_true]
    intro x hx
    have := List.any_eq_false.mp h1 x hx
    simpa using this
  rw [h2]
  have h3 : es.length + ([] : List Keyword).length + (if ([] : List Keyword).isEmpty then 0 else 1) < 30 := by
    simp only [List.length_nil, List.isEmpty_nil, if_true]
    omega
  rw [decide_eq_true h3]
  rfl
theorem tyV_list {ι : List Addr} {H : Hp} {M : Store} {x : Val} {v : V} (hr : HR G ι M H) (r : VR G.K ι H x v) (h : isLst M x = true) : tyV G.K "list" v H := by
  unfold isLst at h
  split at h
  · cases r with
    | @ref n ad hn =>
      split at h
      · rename_i ys em
        obtain ⟨vs, h1, _⟩ := hr.sq_at em hn
        exact .inl ⟨rfl, _, h1⟩
      · cases h
  · cases h
theorem e_mtd (g : Good X G W cf ct lv) {o : Expr} {es : List Expr} {mo : E} {ms : Es} {m : Md} {ap cp : Pos} (ho : PE X o (tE G W cf mo)) (ha : PA X es (tEs G W cf ms)) (hms : es = [] → ms = .nil) (hst : es.all notStar = true) (hlen : es.length < 20) (hc : notCall0 o = true) (hl : (ap.endLine == cp.line) = true) :
    PE X (.Call (.Attribute o (mdN m) ap) es [] cp) (tE G W cf (.mtd m mo ms)) := by
  have hls : sizeLine < 2 ^ 63 := by rw [sizeLine_eq]; decide
  have R := md_run (X := X) (G := G) (W := W) hls m
  have key : ∀ {σ : L2.St} {H : Hp} {Q : VK}, tE G W cf (.mtd m mo ms) σ H Q → tBM X.K "list" (rMd G W m) (tE G W cf mo) (tEs G W cf ms) σ H Q := by
    intro σ H Q q
    obtain ⟨ι, τ, M, hs, hr, q⟩ := q
    unfold ev at q
    refine ⟨ι, τ, M, hs, hr, q.bind fun x M1 ι1 H1 v _ l1 hr1 r1 q1 => ?_⟩
    split at q1
    · rename_i c
      refine ⟨by rw [← g.gk]; exact tyV_list hr1 r1 c, ι1, τ, M1, hs.mono l1, hr1, q1.bind fun xs M2 ι2 H2 vs _ l2 hr2 r2 q2 => ?_⟩
      exact ⟨σ, ι2, M2, x, xs, hr2, r1.mono l2, r2, q2⟩
    · exact q1.elim
  cases es with
  | nil =>
    have e0 := hms rfl
    subst e0
    have key0 : ∀ {σ : L2.St} {H : Hp} {Q : VK}, tE G W cf (.mtd m mo .nil) σ H Q → tBM0 X.K "list" (rMd G W m) (tE G W cf mo) σ H Q := by
      intro σ H Q q
      obtain ⟨ι, τ, M, hs, hr, q⟩ := q
      unfold ev at q
      refine ⟨ι, τ, M, hs, hr, q.bind fun x M1 ι1 H1 v _ l1 hr1 r1 q1 => ?_⟩
      split at q1
      · rename_i c
        unfold evs at q1
        exact ⟨by rw [← g.gk]; exact tyV_list hr1 r1 c, σ, ι1, M1, x, [], hr1, r1, .nil, q1⟩
      · exact q1.elim
    cases m with
    | pop => exact (pe_bm0 PySem.F.plainAttrs_list PySem.F.slot_list_pop PySem.F.type_list_pop R ho (base_ok hc) hl).imp fun σ H Q q => key0 q
    | append => exact (pe_bm0 PySem.F.plainAttrs_list PySem.F.slot_list_append PySem.F.type_list_append R ho (base_ok hc) hl).imp fun σ H Q q => key0 q
    | insert => exact (pe_bm0 PySem.F.plainAttrs_list PySem.F.slot_list_insert PySem.F.type_list_insert R ho (base_ok hc) hl).imp fun σ H Q q => key0 q
  | cons e es =>
    have h' : notStar e = true ∧ es.all notStar = true := by simpa using hst
    have hf := fewN (env := X.env) (cp := cp) hst hlen
    cases m with
    | pop => exact (pe_bm PySem.F.plainAttrs_list PySem.F.slot_list_pop PySem.F.type_list_pop R ho ha (base_ok hc) hf hl (star_ok h'.1) (stars_ok h'.2)).imp fun σ H Q q => key q
    | append => exact (pe_bm PySem.F.plainAttrs_list PySem.F.slot_list_append PySem.F.type_list_append R ho ha (base_ok hc) hf hl (star_ok h'.1) (stars_ok h'.2)).imp fun σ H Q q => key q
    | insert => exact (pe_bm PySem.F.plainAttrs_list PySem.F.slot_list_insert PySem.F.type_list_insert R ho ha (base_ok hc) hf hl (star_ok h'.1) (stars_ok h'.2)).imp fun σ H Q q => key q

/-! ### raise, try -/
theorem pmk_own0 {C : Addr} {bmB : List Value} {B newId initId : String} {x : Str} {p pos : Pos} (F : ExcBaseFacts B newId initId bmB) (q : PySem.W.excIn X.K C bmB newId = true) (gC : X.mg x = some (.ref C)) (kC : PySem.W.keepIn X.K (.ref C) = true) (r : Raises X (.ref C)) (hg : Gl X x)
    (hdb : (x == ("__debug__" : Str)) = false) : PMk X (.Call (.Name x p) [] [] pos) (fun _ H Q => Q (.ref C) none H) := by
  intro pins s σ H Q I h
  refine wpAny_Call_Name_kw (ld_glob I hg gC ?_ hdb)
  refine PySem.W.callWith_K0 I.kIn kC ?_
  obtain ⟨bm, N, nm, qn, bs, hdct, sn, sub, ab, col, dd, k0, k1, k2, k3, k5, mN, hC, hN, hni, T⟩ := exc_obj I.kIn q
  refine wpAny_call_exc_subT F T hC hN hni (fun h' e hm => ?_) (by show 0 ≤ sizeLine; exact Nat.zero_le _)
  exact mk_of I hm r h (I.hok.gone hm.new)
theorem st_rais (g : Good X G W cf ct lv) {x : Str} {c : Nat} {p cpos pos : Pos} (hx : ct.gl x = some (.exc c)) (hg : glB ct.sc x = true) (hd : (x == ("__debug__" : Str)) = false) : PS X (.Raise (some (.Call (.Name x p) [] [] cpos)) none pos) (tSt G W cf (.rais c)) := by
  have A := g.exc x c hx
  obtain ⟨bmB, B, newId, initId, F, qi⟩ := A.inn
  refine (ps_raise g.calm g.takes (pmk_own0 F qi A.mg A.kp (raises_own A.is.hs A.ty) (glB_ok g.sc hg) hd)).imp fun D σ H q => ?_
  obtain ⟨ι, τ, M, hs, hr, q⟩ := q
  unfold ex at q
  exact q ι H σ _ none Le.refl hr hs ⟨rfl, rfl⟩
/-- what stands ready where an exception is caught -/
abbrev Stk (X : Cx) : Prop := X.stack = X.env :: X.outer ∧ X.env.frame = some X.env.locals
theorem Good.tr (g : Good X G W cf ct lv) {W' : WX} {pn : List (Addr × PySem.Obj)} {xe : Value → Shared → Prop} (tk : Takes (X.tr pn xe) W') : Good (X.tr pn xe) G W' cf ct lv where
  gk := g.gk
  sc := g.sc
  N := g.N
  nd := g.nd
  calm := g.calm
  takes := tk
  room := g.room
  gds := g.gds
  fnc := g.fnc
  fn := fun x i k h => let ⟨q⟩ := g.fn x i k h; ⟨q⟩
  gaf := g.gaf
  fnx := fun x k h => let ⟨q⟩ := g.fnx x k h; ⟨q⟩
  tabs := fun x h => let ⟨k, e, q⟩ := g.tabs x h; ⟨k, e, q.mg, q.dic, q.get, q.has⟩
  con := g.con
  blt := g.blt
  exc := fun x c h => let q := g.exc x c h; ⟨q.mg, q.inn, q.kp, q.is, q.ty, q.no⟩
  rep := g.rep
  exm := g.exm
  exs := g.exs
/-- the clauses, compiled -/
inductive HsOk (X : Cx) (G : Gs) (cf : Cf) : List ExceptHandler → Hs → Prop
  | nil : HsOk X G cf [] .nil
  | cons {x : Str} {c : Nat} {b₀ : Stmt} {suite : List Stmt} {m : Ss} {np pos' : Pos} {hds : List ExceptHandler} {hs : Hs} (hc : Names X x (.ref (G.cls c)))
      (hsu : ∀ (a : Addr) (pn : List (Addr × PySem.Obj)), PSs (X.suite a pn) (b₀ :: suite) (tSs G W0 cf m)) (r : HsOk X G cf hds hs) : HsOk X G cf (.ExceptHandler (some (.Name x np)) none (b₀ :: suite) pos' :: hds) (.cons c m hs)
def hdl (G : Gs) (cf : Cf) : Hs → List (Value × (Addr → Value → Option Addr → TS))
  | .nil => []
  | .cons c m hs => (.ref (G.cls c), fun _ _ _ => tSs G W0 cf m) :: hdl G cf hs
theorem HsOk.ok {hds : List ExceptHandler} {hs : Hs} (h : HsOk X G cf hds hs) : HdsOk X hds (hdl G cf hs) := by
  induction h with
  | nil => exact .nil
  | cons hc hsu r ih => exact .cons hc (fun a oe cls d pn _ _ => hsu a _) ih
theorem hand_ok {D : Ends} {ι ι' : List Addr} {H H' : Hp} {σ' : L2.St} {cls : Value} {d : Option Addr} {x : Exc} {τ1 : St} {M1 : Store} (gk : G.K = X.K) (exm : ∀ c1 c2 : Nat, PySem.W.exmOne X.K (.ref (G.cls c1)) (.ref (G.cls c2)) = some (cf.sub c1 c2))
    (l : Le ι H ι' H') (hr : HR G ι' M1 H') (hs' : SR G ι' H' τ1 σ') (xr : XR G ι' H' x cls d) : ∀ {hs : Hs}, PostO G W ι H D (hand cf hs x τ1 M1) → wMany X.K W D (hdl G cf hs) cls d σ' H'
  | .nil, q => by
    unfold hand at q
    exact q ι' H' σ' cls d l hr hs' xr
  | .cons c m hs, q => by
    unfold hand at q
    refine ⟨cf.sub x.cls c, by rw [xr.1]; exact exm _ _, fun hb a _ => ?_, fun hb => ?_⟩
    · rw [hb, if_pos rfl] at q
      refine ⟨ι', τ1, M1, hs', hr, ?_⟩
      cases h : exs cf m τ1 M1 with
      | nx τ2 M2 => rw [h] at q; exact PostO.mono (W := W0) q l
      | ret v M2 => rw [h] at q; exact PostO.mono (W := W0) q l
      | brk τ2 M2 => rw [h] at q; exact PostO.mono (W := W0) q l
      | cnt τ2 M2 => rw [h] at q; exact PostO.mono (W := W0) q l
      | exc x2 τ2 M2 => rw [h] at q; exact q.elim
      | bad => rw [h] at q; exact q.elim
    · rw [hb] at q
      exact hand_ok gk exm l hr hs' xr q
theorem st_tri (g : Good X G W cf ct lv) (hk : Stk X) {body : List Stmt} {mb : Ss} {h₀ : ExceptHandler} {hds : List ExceptHandler} {mh : Hs} {pos : Pos} (hb : ∀ (W' : WX) (pn : List (Addr × PySem.Obj)) (xe : Value → Shared → Prop), Good (X.tr pn xe) G W' cf ct lv → PassesOwn (model X.prog X.w) X.A X.env xe → PSs (X.tr pn xe) body (tSs G W' cf mb))
    (hh : HsOk X G cf (h₀ :: hds) mh) : PS X (.Try body (h₀ :: hds) [] [] pos) (tSt G W cf (.tri mb mh)) := by
  refine (ps_try_many hk.1 hk.2 g.takes (tb := fun W' => tSs G W' cf mb) (fun W' pn xe tk hp => hb W' pn xe (g.tr tk) hp) hh.ok).imp fun D σ H q => ?_
  obtain ⟨ι, τ, M, hs, hr, q⟩ := q
  refine ⟨ι, τ, M, hs, hr, ?_⟩
  unfold ex at q
  cases h : exs cf mb τ M with
  | exc x τ1 M1 =>
    rw [h] at q
    exact fun ι' H' σ' cls d l hr' hs' xr => hand_ok g.gk g.exm l hr' hs' xr q
  | nx τ1 M1 => rw [h] at q; exact q
  | ret v M1 => rw [h] at q; exact q
  | brk τ1 M1 => rw [h] at q; exact q
  | cnt τ1 M1 => rw [h] at q; exact q
  | bad => rw [h] at q; exact q
/-! ### what an except suite may do -/
theorem k_set (hN : X.N.Nodup) {i : Nat} {x : Str} {e : Expr} {m : E} {p pos : Pos} (hi : X.N[i]? = some x) (hl : Loc X.env.scope x) (hf : X.fn x = true ∨ X.env.scope.names.lookup x = some .local) (he : PE X e (tE G W cf m)) (hn : notLc e = true) : PS X (.Assign [.Name x p] e pos) (tSt G W cf (.set i m)) := by
  refine (ps_set hN hi hl he (notLc_ok hn) hf).imp fun D σ H q => ?_
  obtain ⟨ι, τ, M, hs, hr, q⟩ := q
  unfold ex at q
  refine ⟨ι, τ, M, hs, hr, PostO.on q hs fun v M1 ι1 H1 w _ l1 hr1 r1 q1 => ?_⟩
  exact q1 ι1 H1 _ Le.refl hr1 ((hs.mono l1).set r1 i)
theorem k_cst {e : Expr} {v : Val} {w : V} (h : PE X e (tC w)) (r : ∀ ι H, VR G.K ι H v w) : PE X e (tE G W cf (.cst v)) := by
  refine h.imp fun σ H Q q => ?_
  obtain ⟨ι, τ, M, hs, hr, q⟩ := q
  exact q.here hr (r ι H)
end
end Mi
end MiRunAS

section MiGdS
set_option Elab.async false
set_option linter.all false
set_option maxRecDepth 100000
namespace Mi
open PySem L2
/-! ### from the tree to the small language -/
def gd {α : Type} (b : Bool) (x : Option α) : Option α := if b then x else none
theorem gd_some {α : Type} {b : Bool} {x : Option α} {y : α} (h : gd b x = some y) : b = true ∧ x = some y := by
  unfold gd at h
  split at h
  · exact ⟨by assumption, h⟩
  · cases h
def ixOf (N : List Str) (x : Str) : Option Nat := (N.findIdx? (· == x)).bind fun i => gd (decide (N[i]? = some x)) (some i)
theorem ixOf_ok {N : List Str} {x : Str} {i : Nat} (h : ixOf N x = some i) : N[i]? = some x := by
  obtain ⟨j, _, h⟩ := Option.bind_eq_some_iff.mp h
  obtain ⟨h1, h2⟩ := gd_some h
  cases h2
  exact of_decide_eq_true h1
def nDbg (x : Str) : Bool := !(x == ("__debug__" : Str))
def nCld (x : Str) : Bool := !(x == ("__classdict__" : Str))
def cName (ct : Ct) (x : Str) : Option E := gd (nDbg x) (if visB ct.sc x then gd (nCld x) ((ixOf ct.N x).map .var) else gd (glB ct.sc x) (match ct.gl x with
  | some (.con v) => some (.cst v)
  | some (.fn _ _) => some (.cst (.fn x))
  | _ => none))
def cCon : Const → Option E
  | .none => some (.cst .non)
  | .bool b => some (.cst (.bl b))
  | .int i => some (.cst (.int i))
  | .str s => gd (decide (s.cps.toList.length ≤ LIM) && s.cps.toList.all fun c => decide (c < 128)) (some (.cst (.str s.cps.toList)))
  | _ => none
def opOf : Operator → Option Op2
  | .Add => some .add | .Sub => some .sub | .Mult => some .mul | .FloorDiv => some .fdiv | .Mod => some .mod | .Pow => some .pow
  | _ => none
theorem opOf_ok {o : Operator} {m : Op2} (h : opOf o = some m) : o = opr m := by cases o <;> cases h <;> rfl
def coOf : CmpOp → Cmp
  | .Eq => .eq | .NotEq => .ne | .Lt => .lt | .LtE => .le | .Gt => .gt | .GtE => .ge | .Is => .isN | .IsNot => .isNotN | .In => .inn | .NotIn => .notIn
theorem coOf_ok (o : CmpOp) : o = cop (coOf o) := by cases o <;> rfl
def biOf (x : Str) : Option Bi := if x = "len" then some .len else if x = "int" then some .int else if x = "tuple" then some .tuple else if x = "repr" then some .repr else if x = "abs" then some .abs else none
theorem biOf_ok {x : Str} {b : Bi} (h : biOf x = some b) : x = bivn b := by
  unfold biOf at h
  split at h
  · cases h; assumption
  · split at h
    · cases h; assumption
    · split at h
      · cases h; assumption
      · split at h
        · cases h; assumption
        · split at h
          · cases h; assumption
          · cases h
def bilOf (x : Str) : Option Bil := if x = "all" then some .all else if x = "any" then some .any else if x = "sum" then some .sum else if x = "tuple" then some .tuple else none
theorem bilOf_ok {x : Str} {b : Bil} (h : bilOf x = some b) : x = bilvn b := by
  unfold bilOf at h
  split at h
  · cases h; assumption
  · split at h
    · cases h; assumption
    · split at h
      · cases h; assumption
      · split at h
        · cases h; assumption
        · cases h
def mtOf (x : Str) : Option Mt := if x = "isascii" then some .isascii else if x = "isprintable" then some .isprintable else if x = "upper" then some .upper else none
theorem mtOf_ok {x : Str} {b : Mt} (h : mtOf x = some b) : x = mtN b := by
  unfold mtOf at h
  split at h
  · cases h; assumption
  · split at h
    · cases h; assumption
    · split at h
      · cases h; assumption
      · cases h
def clOf (x : Str) : Option Cl := if x = "int" then some .int else if x = "bool" then some .bool else if x = "str" then some .str else if x = "tuple" then some .tuple else if x = "list" then some .list else if x = "dict" then some .dict else none
theorem clOf_ok {x : Str} {b : Cl} (h : clOf x = some b) : x = clName b ∧ ∀ k, b ≠ .own k := by
  unfold clOf at h
  split at h
  · cases h; exact ⟨by assumption, fun _ z => by cases z⟩
  · split at h
    · cases h; exact ⟨by assumption, fun _ z => by cases z⟩
    · split at h
      · cases h; exact ⟨by assumption, fun _ z => by cases z⟩
      · split at h
        · cases h; exact ⟨by assumption, fun _ z => by cases z⟩
        · split at h
          · cases h; exact ⟨by assumption, fun _ z => by cases z⟩
          · split at h
            · cases h; exact ⟨by assumption, fun _ z => by cases z⟩
            · cases h
def inOf : CmpOp → Option Bool
  | .In => some false
  | .NotIn => some true
  | _ => none
theorem inOf_ok {o : CmpOp} {b : Bool} (h : inOf o = some b) : o = if b then .NotIn else .In := by
  cases o <;> first | (cases h; rfl) | cases h
def bnOf (x : Str) : Option Bn := if x = "min" then some .min else if x = "max" then some .max else none
theorem bnOf_ok {x : Str} {b : Bn} (h : bnOf x = some b) : x = binN b := by
  unfold bnOf at h
  split at h
  · cases h; assumption
  · split at h
    · cases h; assumption
    · cases h
def mdOf (x : Str) : Option Md := if x = "pop" then some .pop else if x = "append" then some .append else if x = "insert" then some .insert else none
theorem mdOf_ok {x : Str} {b : Md} (h : mdOf x = some b) : x = mdN b := by
  unfold mdOf at h
  split at h
  · cases h; assumption
  · split at h
    · cases h; assumption
    · split at h
      · cases h; assumption
      · cases h
/-- a built-in name -/
def bltB (ct : Ct) (x : Str) : Bool := glB ct.sc x && (match ct.gl x with
  | some .blt => true
  | _ => false)
theorem bltB_ok {ct : Ct} {x : Str} (h : bltB ct x = true) : glB ct.sc x = true ∧ ct.gl x = some .blt := by
  unfold bltB at h
  rw [Bool.and_eq_true] at h
  refine ⟨h.1, ?_⟩
  have h2 := h.2
  split at h2
  · assumption
  · cases h2
theorem and2 {a b : Bool} (h : (a && b) = true) : a = true ∧ b = true := by rwa [Bool.and_eq_true] at h
def isTab : Option GI → Bool
  | some .tab => true
  | _ => false
/-- a table of the module, by its name -/
def tabName (ct : Ct) : Expr → Option Str
  | .Name x _ => gd (nDbg x && glB ct.sc x && isTab (ct.gl x)) (some x)
  | _ => none
theorem tabName_ok {ct : Ct} {e : Expr} {x : Str} (h : tabName ct e = some x) : ∃ p, e = .Name x p ∧ nDbg x = true ∧ glB ct.sc x = true ∧ ct.gl x = some .tab := by
  unfold tabName at h
  split at h
  · obtain ⟨h1, h2⟩ := gd_some h
    cases h2
    obtain ⟨h1, h3⟩ := and2 h1
    obtain ⟨h1, h2⟩ := and2 h1
    refine ⟨_, rfl, h1, h2, ?_⟩
    unfold isTab at h3
    split at h3
    · assumption
    · cases h3
  · cases h
def isTupE : Expr → Bool
  | .Tuple _ _ _ => true
  | _ => false
end Mi
end MiGdS

section MiRunBS
set_option Elab.async false
set_option linter.all false
set_option maxRecDepth 100000
namespace Mi
open PySem L2
section
variable {X : Cx} {G : Gs} {W : WX} {cf : Cf} {ct : Ct} {lv : Nat}
/-! ### defs as values -/
theorem e_fnv (g : Good X G W cf ct lv) {x : Str} {i k : Nat} {pos : Pos} (hx : ct.gl x = some (.fn i k)) (hg : glB ct.sc x = true) (hd : (x == ("__debug__" : Str)) = false) : PE X (.Name x pos) (tE G W cf (.cst (.fn x))) := by
  refine e_cst g (pe_glob (glB_ok g.sc hg) (g.gaf x i k hx) (v := .ref (He.ga X.K x)) rfl hd) fun ι H => ?_
  have := VR.fn (K := G.K) (ι := ι) (H := H) x
  rw [g.gk] at this ⊢
  exact this
/-- the i-th slot holds a def -/
def tCallV (G : Gs) (W : WX) (cf : Cf) (K : PySem.W.Frag) (i : Nat) (t : TA) : TE := fun σ H Q => ∃ y g, σ[i]? = some (some (.ref (He.ga K y))) ∧ cf.eqx.fno y = some g ∧ t σ H fun vs H1 => ∃ ι M xs, VRs G.K ι H1 xs vs ∧ HR G ι M H1 ∧ PostC G ι H1 Q (WE W σ) (cf.call g xs M)
theorem e_callv (g : Good X G W cf ct lv) {x : Str} {i : Nat} {e : Expr} {es : List Expr} {ms : Es} {p pos : Pos} (hN : ct.N[i]? = some x) (hv : visB ct.sc x = true) (h1 : (x == ("__debug__" : Str)) = false) (h2 : (x == ("__classdict__" : Str)) = false)
    (ha : PA X (e :: es) (tEs G W cf ms)) (hst : (e :: es).all notStar = true) : PE X (.Call (.Name x p) (e :: es) [] pos) (tE G W cf (.callv i ms)) := by
  have h' : notStar e = true ∧ es.all notStar = true := by simpa using hst
  have key : PE X (.Call (.Name x p) (e :: es) [] pos) (tCallV G W cf X.K i (tEs G W cf ms)) := by
    refine ⟨fun pins s σ H Q I h => ?_⟩
    obtain ⟨y, gi, hs, hy, ht⟩ := h
    obtain ⟨k, fd, ps, kp, bn, F, hbad⟩ := (g.fnx y gi hy).ex
    refine wpAny_Call_Name_kw (thn ((pe_var (pos := p) (i := i) (by rw [g.N]; exact hN) (by rw [g.sc]; exact visB_ok hv) h1 h2).run pins s σ H (fun v H1 => v = .ref (He.ga X.K y) ∧ H1 = H) I ⟨_, hs, rfl, rfl⟩) fun u s1 ⟨v, H1, I1, r1, q1⟩ => ?_)
    obtain ⟨rfl, rfl⟩ := q1
    cases r1
    refine PySem.W.callWith_K (h₀ := X.base) I.ok.mod.kin kp (thn (ha.run pos pins s1 σ _ _ I1 ht) fun us s2 ⟨vs, H2, I2, r, q⟩ => ⟨I2.kIn, ?_⟩) (star_ok h'.1) (stars_ok h'.2)
    obtain ⟨ι, M, xs, rx, hr, q⟩ := q
    have hl : xs.length = k := Classical.byContradiction fun z => by rw [hbad xs M z] at q; exact q.elim
    exact goG F g.gds g.room bn (passAt g.takes σ) I2 r ⟨ι, M, xs, hl, rx, hr, q⟩
  refine key.imp fun σ H Q q => ?_
  obtain ⟨ι, τ, M, hs, hr, q⟩ := q
  unfold ev at q
  split at q
  · rename_i y ey
    obtain ⟨w, e2, r⟩ := hs.at_ i _ ey
    cases r
    split at q
    · rename_i gi hf
      refine ⟨y, gi, by rw [← g.gk]; exact e2, hf, ι, τ, M, hs, hr, q.bind fun xs M1 ι1 H1 vs _ l1 hr1 r1 q1 => ?_⟩
      exact ⟨ι1, M1, xs, r1, hr1, postC_of q1⟩
    · exact q.elim
  · exact q.elim
/-! ### tables of the module -/
theorem e_tget (g : Good X G W cf ct lv) {x : Str} {b : Expr} {mb : E} {px pos : Pos} (hx : ct.gl x = some .tab) (hg : glB ct.sc x = true) (hd : (x == ("__debug__" : Str)) = false) (hb : PE X b (tE G W cf mb)) (hn : notSlice b = true) : PE X (.Subscript (.Name x px) b pos) (tE G W cf (.tget x mb)) := by
  obtain ⟨kvs, ek, T⟩ := g.tabs x hx
  refine (pe_ix (ix_kdict (X := X)) (pe_glob (v := .ref (He.ga X.K x)) (glB_ok g.sc hg) T.mg rfl hd) hb (notSlice_ok hn)).imp fun σ H Q q => ?_
  obtain ⟨ι, τ, M, hs, hr, q⟩ := q
  unfold ev at q
  refine ⟨ι, τ, M, hs, hr, q.bind fun y M1 ι1 H1 v _ l1 hr1 r1 q1 => ?_⟩
  obtain ⟨z, e, q2⟩ := q1.opt
  unfold tabGet at e
  split at e
  · rename_i s _
    rw [ek] at e
    obtain ⟨u, w, n1, rw1, vr⟩ := T.get s z e
    obtain ⟨es, n, D⟩ := T.dic
    cases r1
    exact ⟨_, _, w, rfl, rfl, ⟨es, n, u, D.at_, D.lit, n1, rw1⟩, q2.here hr1 (by show VR G.K _ _ _ _; rw [g.gk]; exact vr _ _)⟩
  · cases e
def tinCmp (ng : Bool) : CmpOp := if ng then .NotIn else .In
theorem tin_run (g : Good X G W cf ct lv) {x : Str} (hx : ct.gl x = some .tab) (ng : Bool) : OpR X (compareOp (tinCmp ng)) (fun a b H Q => ∃ s k, a = .str (toS s) ∧ b = .ref (He.ga X.K x) ∧ tabIn cf.eqx x (.str s) = some k ∧ Q (.bl (if ng then !k else k)) H) := by
  obtain ⟨kvs, ek, T⟩ := g.tabs x hx
  obtain ⟨es, n, D⟩ := T.dic
  rintro ps s σ H a b v u Q I ra rb ⟨z, k, rfl, rfl, e, q⟩
  obtain ⟨r, n1, n2⟩ := T.has z
  have ek2 : k = r.isSome := by
    unfold tabIn at e
    simp only [ek, Option.map_some, Option.some.injEq] at e
    rw [n2, ← e]
  subst ek2
  cases ng with
  | true => exact op_notIn_kd D ps s σ H _ _ v u Q I ra rb ⟨_, r, rfl, rfl, n1, q⟩
  | false => exact op_in_kd D ps s σ H _ _ v u Q I ra rb ⟨_, r, rfl, rfl, n1, q⟩
theorem tin_read (g : Good X G W cf ct lv) {x : Str} {ma : E} {ng : Bool} {σ : L2.St} {H : Hp} {Q : VK} (q : tE G W cf (.tin ng ma x) σ H Q) : tOp (fun a b H Q => ∃ s k, a = .str (toS s) ∧ b = .ref (He.ga X.K x) ∧ tabIn cf.eqx x (.str s) = some k ∧ Q (.bl (if ng then !k else k)) H) (tE G W cf ma) (tC (.ref (He.ga X.K x))) σ H Q := by
  obtain ⟨ι, τ, M, hs, hr, q⟩ := q
  unfold ev at q
  refine ⟨ι, τ, M, hs, hr, q.bind fun y M1 ι1 H1 v _ l1 hr1 r1 q1 => ?_⟩
  obtain ⟨z, e, q2⟩ := q1.opt
  obtain ⟨k, e2, rfl⟩ := Option.map_eq_some_iff.mp e
  have hy : ∃ s, y = .str s := by
    unfold tabIn at e2
    split at e2
    · exact ⟨_, rfl⟩
    · cases e2
  obtain ⟨s, rfl⟩ := hy
  cases r1
  exact ⟨s, k, rfl, rfl, e2, q2.here hr1 (.bl _)⟩
theorem e_tin (g : Good X G W cf ct lv) {x : Str} {a : Expr} {ma : E} {ng : Bool} {px pos : Pos} (hx : ct.gl x = some .tab) (hg : glB ct.sc x = true) (hd : (x == ("__debug__" : Str)) = false) (ha : PE X a (tE G W cf ma)) : PE X (.Compare a [tinCmp ng] [.Name x px] pos) (tE G W cf (.tin ng ma x)) := by
  obtain ⟨kvs, ek, T⟩ := g.tabs x hx
  exact (pe_cmpR (tin_run g hx ng) ha (pe_glob (v := .ref (He.ga X.K x)) (glB_ok g.sc hg) T.mg rfl hd) (notSet_ok rfl)).imp fun σ H Q q => tin_read g q
theorem t_tin (g : Good X G W cf ct lv) {x : Str} {a : Expr} {ma : E} {ng : Bool} {px pos : Pos} (hx : ct.gl x = some .tab) (hg : glB ct.sc x = true) (hd : (x == ("__debug__" : Str)) = false) (ha : PE X a (tE G W cf ma)) : PT X (.Compare a [tinCmp ng] [.Name x px] pos) (tT G W cf (.tin ng ma x)) := by
  obtain ⟨kvs, ek, T⟩ := g.tabs x hx
  refine (pt_cmpR (tin_run g hx ng) ha (pe_glob (v := .ref (He.ga X.K x)) (glB_ok g.sc hg) T.mg rfl hd) (notSet_ok rfl)).imp fun σ H Q q => ?_
  refine tin_read g (Q := fun x H' => ∃ k, x = .bl k ∧ Q k H') (test_read (fun τ M y M1 e => ?_) q)
  unfold ev at e
  cases h : ev cf ma τ M with
  | ok z M2 =>
    rw [h] at e
    simp only [Res.bind_ok] at e
    cases h2 : tabIn cf.eqx x z with
    | none => rw [h2] at e; cases e
    | some k => rw [h2] at e; cases e; exact ⟨_, rfl⟩
  | exc x2 M2 => rw [h] at e; cases e
  | bad => rw [h] at e; cases e
/-! ### isinstance of one of several built-in classes -/
def clsAt (ct : Ct) : List Expr → Option (List Cl)
  | [] => some []
  | .Name x _ :: es => gd (bltB ct x && nDbg x) ((clOf x).bind fun c => (clsAt ct es).map (c :: ·))
  | _ :: _ => none
def tCl (G : Gs) (cs : List Cl) : TA := fun _ H Q => Q (cs.map (clv G)) H
theorem cls_ok (g : Good X G W cf ct lv) : ∀ {es : List Expr} {cs : List Cl}, clsAt ct es = some cs → PA X es (tCl G cs) ∧ ∀ c ∈ cs, ∀ k, c ≠ .own k
  | [], cs, h => by cases h; exact ⟨pa_nil, fun c hc => nomatch hc⟩
  | e :: es, cs, h => by
    unfold clsAt at h
    split at h
    · rename_i heq; cases heq
    · rename_i x p es2 heq
      cases heq
      obtain ⟨h0, h⟩ := gd_some h
      obtain ⟨hb, hd⟩ := and2 h0
      obtain ⟨c, hc, h⟩ := Option.bind_eq_some_iff.mp h
      obtain ⟨cs2, h2, rfl⟩ := Option.map_eq_some_iff.mp h
      obtain ⟨ih1, ih2⟩ := cls_ok g h2
      obtain ⟨ex, hno⟩ := clOf_ok hc
      subst ex
      obtain ⟨hb1, hb2⟩ := bltB_ok hb
      obtain ⟨k1, k2, k3⟩ := clBoot hno
      have hcv := (tyn_mem (G := G) hno).2
      have hT : PE X (.Name (clName c) p) (tC (clv G c)) := by
        rw [hcv]
        exact pe_bltn (glB_ok g.sc hb1) (g.blt _ hb2) k1 rfl k2 k3
      refine ⟨(pa_cons hT ih1 (star_ok rfl)).imp fun σ H Q q => q, fun d hd2 => ?_⟩
      rcases List.mem_cons.mp hd2 with rfl | hd2
      · exact hno
      · exact ih2 d hd2
    · cases h
theorem vkind_ok {M : Store} {v : Val} {c : Cl} {k : Bool} (hno : ∀ m, c ≠ .own m) (hx : noExv M v = true) (e : isOf c v M = some k) : vkind M v ∈ kinds ∧ k = (vkind M v == tyn c || (vkind M v == "bool" && tyn c == "int")) := by
  cases v with
  | ref n =>
    simp only [isOf, vkind] at e ⊢
    cases em : M[n]? with
    | none => rw [em] at e; cases c <;> simp at e
    | some o =>
      rw [em] at e
      cases o with
      | lst xs => cases c <;> simp_all [kinds, tyn, okind]
      | dic xs => cases c <;> simp_all [kinds, tyn, okind]
      | exv m => simp [noExv, em] at hx
  | _ => cases c <;> simp_all [isOf, vkind, kinds, tyn]
theorem any_ok {M : Store} {v : Val} (hx : noExv M v = true) : ∀ {cs : List Cl} {k : Bool}, (∀ c ∈ cs, ∀ m, c ≠ .own m) → anyOf cs v M = some k → PySem.W.kitAny X.K (.type (vkind M v)) (cs.map fun c => .type (tyn c)) = some k ∧ (cs ≠ [] → vkind M v ∈ kinds)
  | [], k, _, e => by cases e; exact ⟨rfl, fun z => absurd rfl z⟩
  | c :: cs, k, hno, e => by
    unfold anyOf at e
    have hc := hno c List.mem_cons_self
    have hm := (tyn_mem (G := ⟨X.K, fun _ => 0⟩) hc).1
    have one : ∀ b, isOf c v M = some b → PySem.W.kitOne X.K (.type (vkind M v)) (.type (tyn c)) = some b ∧ vkind M v ∈ kinds := fun b hb => by
      obtain ⟨h1, h2⟩ := vkind_ok hc hx hb
      refine ⟨?_, h1⟩
      rw [h2]
      exact kit_ty (kits _ h1 _ hm)
    rw [List.map_cons]
    unfold PySem.W.kitAny
    split at e
    · rename_i hb
      cases e
      rw [(one _ hb).1]
      exact ⟨rfl, fun _ => (one _ hb).2⟩
    · rename_i hb
      rw [(one _ hb).1]
      exact ⟨(any_ok hx (fun d hd => hno d (List.mem_cons_of_mem _ hd)) e).1, fun _ => (one _ hb).2⟩
    · cases e
theorem clsV_ok (G : Gs) : ∀ {cs : List Cl}, (∀ c ∈ cs, ∀ m, c ≠ .own m) → Paired ClsV (cs.map (clv G)) (cs.map fun c => Value.type (tyn c))
  | [], _ => .nil
  | c :: cs, h => by
    refine .cons ?_ (clsV_ok G fun d hd => h d (List.mem_cons_of_mem _ hd))
    rw [(tyn_mem (G := G) (h c List.mem_cons_self)).2]
    exact .ty _
theorem e_isis (g : Good X G W cf ct lv) {a : Expr} {es : List Expr} {ma : E} {cs : List Cl} {kt : Nat} {p pt pos : Pos} (ha : PE X a (tE G W cf ma)) (hn : notStar a = true) (hcs : clsAt ct es = some cs) (hg : glB ct.sc "isinstance" = true) (hb : ct.gl "isinstance" = some .blt) :
    PE X (.Call (.Name "isinstance" p) [a, .Tuple es kt pt] [] pos) (tE G W cf (.isis ma cs)) := by
  obtain ⟨hA, hno⟩ := cls_ok g hcs
  refine (pe_callB (call_isiT (X := X)) (glB_ok g.sc hg) (g.blt _ hb) PyProof.Rows.boot_isinstance (pa_cons ha (pa_cons (pe_tup hA) pa_nil (star_ok rfl)) (star_ok hn)) (by decide) (by decide) (star_ok hn) (stars_ok (es := [.Tuple es kt pt]) rfl)).imp fun σ H Q q => ?_
  obtain ⟨ι, τ, M, hs, hr, q⟩ := q
  unfold ev at q
  refine ⟨ι, τ, M, hs, hr, q.bind fun x M1 ι1 H1 v _ l1 hr1 r1 q1 => ?_⟩
  obtain ⟨z, e, q2⟩ := q1.opt
  obtain ⟨k, e2, rfl⟩ := Option.map_eq_some_iff.mp e
  unfold isOfs at e2
  split at e2
  · rename_i c
    obtain ⟨c, c3⟩ := and2 c
    obtain ⟨c1, c2⟩ := and2 c
    have hne : cs ≠ [] := fun z => by rw [z] at c2; cases c2
    obtain ⟨k1, k2⟩ := any_ok (X := X) c1 hno e2
    have hk : vkind M1 x ≠ "" := fun z => by
      have := k2 hne
      rw [z] at this
      simp [kinds] at this
    refine ⟨by rw [List.length_map, ← lim_eq, lim_val]; have := of_decide_eq_true c3; omega, fun tp htp => ?_⟩
    have l2 : Le ι1 H1 ι1 (upd H1 tp (.tup (cs.map (clv G)))) := Le.new htp
    refine ⟨v, tp, _, .type (vkind M1 x), _, k, rfl, upd_same, clsV_ok G hno, ?_, k1, q2 ι1 _ _ l2 (hr1.new htp) (.bl k)⟩
    rw [← g.gk]
    exact ty_of (hr1.new htp) (r1.mono l2) hk
  · cases e2
/-! ### ranges from a place on -/
theorem rngOk_ok {i j : Int} (h : rngOk i j = true) : (-(2 ^ 62) ≤ i ∧ i < 2 ^ 62 ∧ -(2 ^ 62) ≤ j ∧ j < 2 ^ 62) ∧ (j - i).toNat ≤ 2 ^ 24 := by
  unfold rngOk at h
  simp only [Bool.and_eq_true, decide_eq_true_eq] at h
  omega
theorem wk_rng2 {ι : List Addr} {H : Hp} (i j : Int) : Wk G ι H (rngV i j) [] (Itr i (j - i).toNat) where
  go := fun ι' H' M' l hr _ k hk => by
    show k < (j - i).toNat
    simpa [rngV] using hk
  stop := fun ι' H' M' l hr _ => by
    show (j - i).toNat ≤ _
    simp [rngV]
  yld := fun ι' H' M' l hr _ k x H2 hk y => by
    obtain ⟨e1, rfl⟩ := y
    have hk2 : k < (j - i).toNat := by simpa [rngV] using hk
    rw [e1]
    exact ⟨Le.refl, hr, .int (i + (k : Nat)), by simp [rngV, hk2], .int _⟩
theorem s_rng2 (g : Good X G W cf ct lv) {tg a b : Expr} {ma mb : E} {p pos : Pos} (ha : PE X a (tE G W cf ma)) (hb : PE X b (tE G W cf mb)) (hna : notStar a = true) (hnb : notStar b = true) (hg : glB ct.sc "range" = true) (hbt : ct.gl "range" = some .blt) :
    PI X tg (.Call (.Name "range" p) [a, b] [] pos) (tS G W cf (.rng2 ma mb)) := by
  have sb : starEach [b] X.env = [(false, eval b X.env)] := star_ok hnb
  have sa : starEach [a, b] X.env = [(false, eval a X.env), (false, eval b X.env)] := by rw [star_ok hna, sb]
  refine (pi_range2 (glB_ok g.sc hg) (g.blt _ hbt) (pa_cons ha (pa_cons hb pa_nil (star_ok hnb)) (star_ok hna)) sa sb).imp fun σ H R q => ?_
  obtain ⟨ι, τ, M, hs, hr, q⟩ := q
  unfold evS at q
  refine ⟨ι, τ, M, hs, hr, PostS.of q fun x M1 ι1 H1 v _ l1 hr1 r1 q1 => ?_⟩
  refine ⟨ι1, τ, M1, hs.mono l1, hr1, PostS.of q1 fun y M2 ι2 H2 w _ l2 hr2 r2 q2 => ?_⟩
  have r1' := r1.mono l2
  cases r1' with
  | int i => cases r2 with
    | int j =>
      simp only at q2
      split at q2
      · rename_i c
        exact ⟨i, j, rfl, (rngOk_ok c).1, q2 ι2 H2 _ Le.refl hr2 (wk_rng2 i j)⟩
      · exact q2.elim
    | _ => exact q2.elim
  | _ => exact q2.elim
theorem rngV_rel {K : PySem.W.Frag} {ι : List Addr} {H : Hp} (i j : Int) : VRs K ι H (rngV i j) (rgV i j) := by
  unfold rngV rgV
  generalize (List.range (j - i).toNat) = l
  induction l with
  | nil => exact .nil
  | cons n l ih => exact .cons (.int _) ih
theorem l_rng2 (g : Good X G W cf ct lv) {a b : Expr} {ma mb : E} {p p2 pos pos2 : Pos} (ha : PE X a (tE G W cf ma)) (hb : PE X b (tE G W cf mb)) (hna : notStar a = true) (hnb : notStar b = true) (hg : glB ct.sc "range" = true) (hbt : ct.gl "range" = some .blt) (hg2 : glB ct.sc "list" = true) (hbt2 : ct.gl "list" = some .blt) :
    PE X (.Call (.Name "list" p) [.Call (.Name "range" p2) [a, b] [] pos2] [] pos) (tL G W cf (.rng2 ma mb)) := by
  refine (pe_listRg g.calm (glB_ok g.sc hg2) (g.blt _ hbt2) (prg_2 (glB_ok g.sc hg) (g.blt _ hbt) ha hb (star_ok hna) (star_ok hnb) (stars_ok (es := [b]) (by simp [hnb]))) (star_ok rfl)).imp fun σ H Q q => ?_
  obtain ⟨ι, τ, M, hs, hr, q⟩ := q
  unfold evL at q
  refine ⟨ι, τ, M, hs, hr, Post.bindL q fun x M1 ι1 H1 v _ l1 hr1 r1 q1 => ?_⟩
  refine ⟨ι1, τ, M1, hs.mono l1, hr1, Post.bindL q1 fun y M2 ι2 H2 w _ l2 hr2 r2 q2 => ?_⟩
  have r1' := r1.mono l2
  cases r1' with
  | int i => cases r2 with
    | int j =>
      simp only at q2
      split at q2
      · rename_i c
        obtain ⟨⟨c1, c2, c3, c4⟩, c5⟩ := rngOk_ok c
        exact ⟨i, j, rfl, rfl, ⟨c1, c2, c3, c4, c5⟩, fun p hp => q2.make hr2 (rngV_rel i j) hp⟩
      · exact q2.elim
    | _ => exact q2.elim
  | _ => exact q2.elim
/-! ### pairs of two rows -/
theorem zip_len : ∀ xs ys : List Val, (zipV xs ys).length = min xs.length ys.length
  | [], ys => by cases ys <;> simp [zipV]
  | x :: xs, [] => by simp [zipV]
  | x :: xs, y :: ys => by simp only [zipV, List.length_cons, zip_len xs ys]; omega
theorem zip_get : ∀ {xs ys : List Val} {i : Nat} {x y : Val}, xs[i]? = some x → ys[i]? = some y → (zipV xs ys)[i]? = some (.tup [x, y])
  | [], _, i, _, _, h, _ => by simp at h
  | _ :: _, [], i, _, _, _, h => by simp at h
  | a :: xs, b :: ys, 0, x, y, h, k => by simp at h k; subst h; subst k; rfl
  | a :: xs, b :: ys, i + 1, x, y, h, k => by
    simp only [zipV, List.getElem?_cons_succ] at h k ⊢
    exact zip_get h k
theorem zip_at {xs ys : List Val} {i : Nat} (h : i < (zipV xs ys).length) : ∃ x y, xs[i]? = some x ∧ ys[i]? = some y ∧ (zipV xs ys)[i]? = some (.tup [x, y]) := by
  rw [zip_len] at h
  have h1 : i < xs.length := by omega
  have h2 : i < ys.length := by omega
  exact ⟨xs[i], ys[i], List.getElem?_eq_getElem h1, List.getElem?_eq_getElem h2, zip_get (List.getElem?_eq_getElem h1) (List.getElem?_eq_getElem h2)⟩
/-- a new pair that a walk yields -/
theorem pair_new {ι : List Addr} {H : Hp} {M : Store} {T : Addr} {x y : Val} {v w : V} (hr : HR G ι M H) (hT : H T = none) (rx : VR G.K ι H x v) (ry : VR G.K ι H y w) : Le ι H ι (upd H T (.tup [v, w])) ∧ HR G ι M (upd H T (.tup [v, w])) ∧ VR G.K ι (upd H T (.tup [v, w])) (.tup [x, y]) (.ref T) :=
  ⟨Le.new hT, hr.new hT, vr_tup_new hT (.cons rx (.cons ry .nil))⟩
theorem wk_zipT {ι : List Addr} {H : Hp} {xs ys : List Val} {vs ws : List V} {a b : Addr} (qa : SqT G.K H a vs) (qb : SqT G.K H b ws) (rx : VRs G.K ι H xs vs) (ry : VRs G.K ι H ys ws) : Wk G ι H (zipV xs ys) [] (RZ.ItzT G.K a b) where
  go := fun ι' H' M' l hr s i hi => by
    obtain ⟨x, y, h1, h2, _⟩ := zip_at hi
    obtain ⟨v, e1, _⟩ := rx.get h1
    obtain ⟨w, e2, _⟩ := ry.get h2
    exact ⟨vs, ws, v, w, l.ext.sqT qa, l.ext.sqT qb, e1, e2⟩
  stop := fun ι' H' M' l hr s => by
    refine ⟨vs, ws, l.ext.sqT qa, l.ext.sqT qb, ?_⟩
    rw [zip_len, rx.length, ry.length]; omega
  yld := fun ι' H' M' l hr s i v H2 hi y => by
    obtain ⟨x, z, h1, h2, h3⟩ := zip_at hi
    obtain ⟨p, e1, r1⟩ := (rx.mono l).get h1
    obtain ⟨q, e2, r2⟩ := (ry.mono l).get h2
    obtain ⟨T, p', q', rfl, hT, rfl, f1, f2⟩ := y
    have e3 := f1 vs (l.ext.sqT qa)
    have e4 := f2 ws (l.ext.sqT qb)
    rw [e1] at e3; cases e3
    rw [e2] at e4; cases e4
    obtain ⟨z1, z2, z3⟩ := pair_new hr hT r1 r2
    exact ⟨z1, z2, _, h3, z3⟩
theorem wk_zipL {ι : List Addr} {H : Hp} {m n : Nat} {xs ys : List Val} {a b : Addr} (ha : ι[m]? = some a) (hb : ι[n]? = some b) : Wk G ι H (zipV xs ys) [(m, xs), (n, ys)] (Itz G.K a b) where
  go := fun ι' H' M' l hr s i hi => by
    obtain ⟨x, y, h1, h2, _⟩ := zip_at hi
    obtain ⟨vs, qa, rx⟩ := hr.sq_at s.1 (l.at ha)
    obtain ⟨ws, qb, ry⟩ := hr.sq_at s.2.1 (l.at hb)
    obtain ⟨v, e1, _⟩ := rx.get h1
    obtain ⟨w, e2, _⟩ := ry.get h2
    exact ⟨vs, ws, v, w, qa, qb, e1, e2⟩
  stop := fun ι' H' M' l hr s => by
    obtain ⟨vs, qa, rx⟩ := hr.sq_at s.1 (l.at ha)
    obtain ⟨ws, qb, ry⟩ := hr.sq_at s.2.1 (l.at hb)
    refine ⟨vs, ws, qa, qb, ?_⟩
    rw [zip_len, rx.length, ry.length]; omega
  yld := fun ι' H' M' l hr s i v H2 hi y => by
    obtain ⟨vs, qa, rx⟩ := hr.sq_at s.1 (l.at ha)
    obtain ⟨ws, qb, ry⟩ := hr.sq_at s.2.1 (l.at hb)
    obtain ⟨x, z, h1, h2, h3⟩ := zip_at hi
    obtain ⟨p, e1, r1⟩ := rx.get h1
    obtain ⟨q, e2, r2⟩ := ry.get h2
    obtain ⟨T, p', q', rfl, hT, rfl, f1, f2⟩ := y
    have e3 := f1 vs qa
    have e4 := f2 ws qb
    rw [e1] at e3; cases e3
    rw [e2] at e4; cases e4
    obtain ⟨z1, z2, z3⟩ := pair_new hr hT r1 r2
    exact ⟨z1, z2, _, h3, z3⟩
theorem s_zip (g : Good X G W cf ct lv) {elts : List Expr} {kk : Nat} {tpos : Pos} {a b : Expr} {ma mb : E} {p pos : Pos} (ha : PE X a (tE G W cf ma)) (hb : PE X b (tE G W cf mb)) (hna : notStar a = true) (hnb : notStar b = true) (hg : glB ct.sc "zip" = true) (hbt : ct.gl "zip" = some .blt) :
    PI X (.Tuple elts kk tpos) (.Call (.Name "zip" p) [a, b] [] pos) (tS G W cf (.zip ma mb)) := by
  refine (RZ.pi_zipA (glB_ok g.sc hg) (g.blt _ hbt) (pa_cons ha (pa_cons hb pa_nil (star_ok hnb)) (star_ok hna)) (star_ok hna) (stars_ok (es := [b]) (by simp [hnb]))).imp fun σ H R q => ?_
  obtain ⟨ι, τ, M, hs, hr, q⟩ := q
  unfold evS at q
  refine ⟨ι, τ, M, hs, hr, PostS.of q fun x M1 ι1 H1 v _ l1 hr1 r1 q1 => ?_⟩
  refine ⟨ι1, τ, M1, hs.mono l1, hr1, PostS.of q1 fun y M2 ι2 H2 w _ l2 hr2 r2 q2 => ?_⟩
  have r1' := r1.mono l2
  split at q2
  · cases r1' with
    | tup hT1 rr1 => cases r2 with
      | tup hT2 rr2 =>
        refine ⟨_, _, _, _, rfl, .inr ⟨by rw [← g.gk]; exact hT1, by rw [← g.gk]; exact hT2, ?_⟩⟩
        rw [← g.gk]
        exact q2 ι2 H2 _ Le.refl hr2 (wk_zipT hT1 hT2 rr1 rr2)
  · cases r1' with
    | ref ha1 => cases r2 with
      | ref hb1 =>
        split at q2
        · rename_i e1 e2
          obtain ⟨vs, qa, rx⟩ := hr2.sq_at e1 ha1
          obtain ⟨ws, qb, ry⟩ := hr2.sq_at e2 hb1
          refine ⟨_, _, vs, ws, rfl, .inl ⟨by rw [← g.gk]; exact qa, by rw [← g.gk]; exact qb, ?_⟩⟩
          rw [← g.gk]
          exact q2 ι2 H2 _ Le.refl hr2 (wk_zipL ha1 hb1)
        · exact q2.elim
  · exact q2.elim
/-! ### a, b, c = x, y, z -/
def parB3 (ct : Ct) (x y z : Str) (px py pz : Pos) (a b c : Expr) : Bool :=
  isLocal ct x && isLocal ct y && isLocal ct z && (x != y) && (x != z) && (y != z) && (px.line == py.line) && (px.line == pz.line) && notStar a && notStar b && notStar c && !([a, b, c].all (foldedForSure 8)) && !([a, b, c].all (constantsAlone 8)) && (match ct.sc.kind with | .function => true | _ => false)
theorem parB3_ok (g : Good X G W cf ct lv) {x y z : Str} {px py pz pt p2 : Pos} {kt k2 : Nat} {a b c : Expr} (h : parB3 ct x y z px py pz a b c = true) :
    swappedStores [.Tuple [.Name x px, .Name y py, .Name z pz] kt pt] (.Tuple [a, b, c] k2 p2) X.env = pure (some [x, y, z]) := by
  unfold parB3 at h
  simp only [Bool.and_eq_true] at h
  obtain ⟨⟨⟨⟨⟨⟨⟨⟨⟨⟨⟨⟨⟨h1, h2⟩, h3⟩, h4⟩, h5⟩, h6⟩, h7⟩, h8⟩, h9⟩, h10⟩, h11⟩, h12⟩, h13⟩, h14⟩ := h
  have kx : X.env.kindOf x = some .local := by
    show X.env.scope.names.lookup x = _
    rw [g.sc]; exact isLocal_ok h1
  have ky : X.env.kindOf y = some .local := by
    show X.env.scope.names.lookup y = _
    rw [g.sc]; exact isLocal_ok h2
  have kz : X.env.kindOf z = some .local := by
    show X.env.scope.names.lookup z = _
    rw [g.sc]; exact isLocal_ok h3
  have kk : X.env.blockKind = .function := by
    unfold Env.blockKind
    rw [g.sc]
    split at h14
    · rename_i e; rw [e]; rfl
    · cases h14
  have l1 : py.line = px.line := by
    have : px.line = py.line := by simpa using h7
    exact this.symm
  have l2 : pz.line = px.line := by
    have : px.line = pz.line := by simpa using h8
    exact this.symm
  have n1 : (y == x) = false := by
    have : x ≠ y := by simpa using h4
    rw [beq_eq_false_iff_ne]; exact fun e => this e.symm
  have n2 : (z == x) = false := by
    have : x ≠ z := by simpa using h5
    rw [beq_eq_false_iff_ne]; exact fun e => this e.symm
  have n3 : (z == y) = false := by
    have : y ≠ z := by simpa using h6
    rw [beq_eq_false_iff_ne]; exact fun e => this e.symm
  have hd : [x, y, z].eraseDups = [x, y, z] := by
    rw [List.eraseDups_cons]
    simp [n1, n2, n3, List.eraseDups_cons]
  unfold swappedStores
  dsimp only
  rw [if_neg (by rw [kk]; intro z; cases z)]
  rw [if_neg (by
    intro z
    obtain ⟨e, he, ze⟩ := List.any_eq_true.mp z
    have hn : notStar e = true := by
      rcases List.mem_cons.mp he with rfl | he
      · exact h9
      · rcases List.mem_cons.mp he with rfl | he
        · exact h10
        · rw [List.mem_singleton.mp he]; exact h11
    cases e <;> first | (cases hn; done) | (cases ze; done))]
  simp only [List.filterMap_cons, List.filterMap_nil, kx, ky, kz, l1, l2, Expr.pos, List.head?_cons, Option.map_some, Option.getD_some, beq_self_eq_true, Bool.and_self, if_true, hd]
  rw [if_neg (by intro z; cases z), if_neg (by intro z; rw [z] at h12; cases h12), if_neg (by intro z; rw [z] at h13; cases h13)]
theorem st_par3 (g : Good X G W cf ct lv) {i j k : Nat} {x y z : Str} {a b c : Expr} {ma mb mc : E} {px py pz pt p2 pos : Pos} {kt k2 : Nat} (hi : ct.N[i]? = some x) (hj : ct.N[j]? = some y) (hk : ct.N[k]? = some z) (ha : PE X a (tE G W cf ma)) (hb : PE X b (tE G W cf mb)) (hc : PE X c (tE G W cf mc)) (hp : parB3 ct x y z px py pz a b c = true) :
    PS X (.Assign [.Tuple [.Name x px, .Name y py, .Name z pz] kt pt] (.Tuple [a, b, c] k2 p2) pos) (tSt G W cf (.par3 i j k ma mb mc)) := by
  have hsw := parB3_ok (kt := kt) (pt := pt) (k2 := k2) (p2 := p2) g hp
  unfold parB3 at hp
  simp only [Bool.and_eq_true] at hp
  obtain ⟨⟨⟨⟨⟨⟨⟨⟨⟨⟨⟨⟨⟨h1, h2⟩, h3⟩, h4⟩, h5⟩, h6⟩, h7⟩, h8⟩, h9⟩, h10⟩, h11⟩, h12⟩, h13⟩, h14⟩ := hp
  have ne : ∀ {m n : Nat} {u v : Str}, ct.N[m]? = some u → ct.N[n]? = some v → (u != v) = true → m ≠ n := fun {m n u v} hm hn h e => by
    subst e
    rw [hm] at hn
    have : u = v := Option.some.inj hn
    simp [this] at h
  refine (ps_par3 g.calm g.nd (by rw [g.N]; exact hi) (by rw [g.N]; exact hj) (by rw [g.N]; exact hk) (ne hi hj h4) (ne hi hk h5) (ne hj hk h6) (by rw [g.sc]; exact isLocal_ok h1) (by rw [g.sc]; exact isLocal_ok h2) (by rw [g.sc]; exact isLocal_ok h3) (pa_cons ha (pa_cons hb (pa_cons hc pa_nil (star_ok h11)) (star_ok h10)) (star_ok h9)) hsw rfl).imp fun D σ H q => ?_
  obtain ⟨ι, τ, M, hs, hr, q⟩ := q
  unfold ex at q
  refine ⟨ι, τ, M, hs, hr, PostO.on q hs fun v M1 ι1 H1 w _ l1 hr1 r1 q1 => ?_⟩
  refine ⟨ι1, τ, M1, hs.mono l1, hr1, PostO.on q1 (hs.mono l1) fun v2 M2 ι2 H2 w2 _ l2 hr2 r2 q2 => ?_⟩
  refine ⟨ι2, τ, M2, hs.mono (l1.trans l2), hr2, PostO.on q2 (hs.mono (l1.trans l2)) fun v3 M3 ι3 H3 w3 _ l3 hr3 r3 q3 => ?_⟩
  exact ⟨w, w2, w3, rfl, q3 ι3 H3 _ Le.refl hr3 ((((hs.mono ((l1.trans l2).trans l3)).set (r1.mono (l2.trans l3)) i).set (r2.mono l3) j).set r3 k)⟩
end
end Mi
end MiRunBS

section MiReprS
set_option Elab.async false
set_option linter.all false
set_option maxRecDepth 100000
/-! repr of an own exception without arguments -/
namespace Mi
open PySem Builtin Builtin.Str Builtin.BaseException Builtin.Exceptions
open PySem.W (Looks Frag findIn subIn looks_findIn looks_subIn)
section
variable {prog : Program} {w : World} {M : Model} {A : Around} {E : Value → Shared → Prop} {s : Shared} {K : Frag} {C e t0 : Addr}
theorem by_C {last : Value → List Value → Sem Value} {v tp : Value} {name : PySem.Str} {i : String} {Q : Option Value → Shared → Prop} (hT : Looks M s.heap (typeOf v) tp) (hf : Looks M s.heap (typeLookup tp name) (some (.builtin i))) (hb : bindSpecial (.builtin i) v = pure (.builtin i, [v]))
    (hc : wpAny M A (last (.builtin i) [v]) (fun r => Q (some r)) E s) : wpAny M A (callSpecialIfBoundBy? last v name) Q E s := by
  simp only [callSpecialIfBoundBy?, bindSpecialIfBound?]
  refine wpAny_holding (wpAny_bind (wpAny_bind ?_))
  unfold specialOf
  refine wpAny_bind (hT.here (hf.here ?_))
  simp only [hb]
  refine wpAny_bind (wpAny_askSetting (wpAny_ite ?_))
  have fin : wpAny M A (last (.builtin i) [v] >>= fun r => pure (some r)) Q E s := wpAny_bind (wpAny_mono hc (fun _ _ q => wpAny_pure q) fun _ _ q => q)
  split
  · exact wpAny_bind (wpAny_pure (wpAny_pure fin))
  · exact wpAny_tryCatch (wpAny_bind (wpAny_pure (wpAny_pure fin)))
/-- the class's name -/
def nameOf (K : Frag) (C : Addr) (nm : PySem.Str) : Prop := ∃ oc od cd sl, K.lookup C = some ⟨oc, od, .cls cd, sl⟩ ∧ cd.name = nm
def nameB (K : Frag) (C : Addr) (nm : PySem.Str) : Bool := match K.lookup C with
  | some ⟨_, _, .cls cd, _⟩ => decide (cd.name = nm)
  | _ => false
theorem nameB_ok {nm : PySem.Str} (h : nameB K C nm = true) : nameOf K C nm := by
  unfold nameB at h
  split at h
  · rename_i oc od cd sl e
    exact ⟨oc, od, cd, sl, e, of_decide_eq_true h⟩
  · cases h
theorem whole_C {nm : PySem.Str} {Q : String → Shared → Prop} (x : PySem.ExcC K C e t0 s.heap) (hn : nameOf K C nm) (hq : Q nm.toString s) : wpAny M A (typeNameOfWhole (.ref e)) Q E s := by
  obtain ⟨oc, od, cd, sl, lk, rfl⟩ := hn
  unfold typeNameOfWhole shownTypeOf
  refine wpAny_bind (wpAny_bind (x.LT.here ?_))
  have hne : (Value.ref C == Value.type "builtin_function_or_method") = false := rfl
  simp only [hne, Bool.false_eq_true, if_false]
  refine wpAny_pure ?_
  unfold typeNameWhole classData
  refine wpAny_bind (wpAny_bind (wpAny_load (x.1 _ _ lk) ?_))
  exact wpAny_pure (wpAny_pure hq)
def excName (nm : PySem.Str) : PySem.Str := PySem.Str.ofString ((nm.toString.cutAt '.').getLastD "")
theorem excC_keeps {h h' : Heap} (x : PySem.ExcC K C e t0 h) (k : ∀ b o, h.get? b = some o → h'.get? b = some o) : PySem.ExcC K C e t0 h' := by
  obtain ⟨X, o, vs, h1, h2, h3, h4⟩ := x
  exact ⟨PySem.W.Frag.In.keeps X k, o, vs, k _ _ h1, h2, h3, h4⟩
theorem tupAt_keeps {h h' : Heap} {xs : List Value} (x : h.TupAt t0 xs) (k : ∀ b o, h.get? b = some o → h'.get? b = some o) : h'.TupAt t0 xs := by
  obtain ⟨ot, n, h1, h2, h3⟩ := x
  exact ⟨ot, n, k _ _ h1, h2, h3⟩
theorem len_app (a b : PySem.Str) : (a ++ b).length = a.length + b.length := strLen_append a b
theorem tupleText_nil : tupleText [] = PySem.Str.ofString "()" := by decide +kernel
theorem ret_text {y : PySem.Str} {z : Shared} {Q : Value → Shared → Prop} (hz : y.length ≤ sizeLine) (hq : ∀ (tk : Nat) (u : Tok), Q (.str y u) { z with toks := tk }) : wpAny M A (retStr y) (fun f s' => ∃ v, f = .done (.ret v) ∧ Q v s') E z := by
  unfold retStr
  exact wpAny_bind (wpAny_mkStr (wpAny_pure ⟨_, rfl, hq _ _⟩) hz)
theorem body_C {h₀ : Heap} {nm : PySem.Str} {g : List Code} {base : Nat} {Q : Value → Shared → Prop} (x : PySem.ExcC K C e t0 h₀) (ht : h₀.TupAt t0 []) (hn : nameOf K C nm) (hb : base + ((excName nm).length + 2) ≤ sizeLine) (hg : A.guards = some g) (hcl : ∀ b ∈ [t0], Clear g b) (hu : A.units + 2 < cLine)
    (hk0 : ∀ b o, h₀.get? b = some o → s.heap.get? b = some o) (hQ : ∀ h' tk u, (∀ b o, s.heap.get? b = some o → h'.get? b = some o) → Q (.str (excName nm ++ PySem.Str.ofString "()") u) { s with heap := h', toks := tk }) : wpAny (model prog w) A (Builtin.bexcReprAt base ⟨[.ref e], []⟩) (fun f s' => ∃ v, f = .done (.ret v) ∧ Q v s') E s := by
  have xs := excC_keeps x hk0
  have ts := tupAt_keeps ht hk0
  have e2 : (PySem.Str.ofString "()").length = 2 := by rw [ofString_length]; rfl
  have inner : ReprK prog w [t0] h₀ 1 (.ref t0) (tupleText []) := by
    obtain ⟨ot, n, h1, h2, h3⟩ := ht
    exact ReprK.tuple h1 h2 h3 (by simp) .nil
  have hin : ∀ (b : Nat) (z : Shared) (Q2 : PySem.Str → Shared → Prop) (E2 : Value → Shared → Prop), b + 2 ≤ sizeLine → (∀ c o, s.heap.get? c = some o → z.heap.get? c = some o) → (∀ h' tk, (∀ c o, z.heap.get? c = some o → h'.get? c = some o) → Q2 (PySem.Str.ofString "()") { z with heap := h', toks := tk }) →
      wpAny (model prog w) A (pyReprUnder b (.ref t0)) Q2 E2 z := fun b z Q2 E2 h1 h2 h3 => by
    rw [tupleText_nil] at inner
    exact inner b (by rw [e2]; exact h1) A g E2 z Q2 hg hcl (by omega) (fun c o q => h2 c o (hk0 c o q)) h3
  unfold Builtin.bexcReprAt
  refine wpAny_bind ?_
  show wpAny _ _ (pure (Value.ref e, ([] : List Value))) _ _ _
  refine wpAny_pure (wpAny_bind (whole_C xs hn (wpAny_bind (bexcArgs_C xs ts ?_))))
  show wpAny _ _ (do
    let r ← pyReprUnder (base + (excName nm).length) (.ref t0)
    retStr (excName nm ++ r)) _ _ _
  have hle : base + (excName nm).length + 2 ≤ sizeLine := by rw [Nat.add_assoc]; exact hb
  have hsz : (excName nm ++ PySem.Str.ofString "()").length ≤ sizeLine := by rw [len_app, e2]; exact Nat.le_trans (Nat.le_add_left _ base) hb
  refine wpAny_bind (hin (base + (excName nm).length) s _ _ hle (fun _ _ z => z) fun h' tk hk => ?_)
  generalize excName nm ++ PySem.Str.ofString "()" = y at hQ hsz ⊢
  exact ret_text (Q := Q) hsz fun tk2 u => hQ h' tk2 u hk
theorem under_C {h₀ : Heap} {nm : PySem.Str} {g : List Code} {base : Nat} {Q : Value → Shared → Prop} (x : PySem.ExcC K C e t0 h₀) (ht : h₀.TupAt t0 []) (hs : findIn K (.ref C) "__repr__" = some (some (.builtin "BaseException.__repr__"))) (hB : subIn K (.ref C) (.type "BaseException") = some true) (hn : nameOf K C nm)
    (hb : base + ((excName nm).length + 2) ≤ sizeLine) (hg : A.guards = some g) (hcl : ∀ b ∈ [t0], Clear g b) (hu : A.units + 3 < cLine) (hk0 : ∀ b o, h₀.get? b = some o → s.heap.get? b = some o) (hQ : ∀ h' tk u, (∀ b o, s.heap.get? b = some o → h'.get? b = some o) → Q (.str (excName nm ++ PySem.Str.ofString "()") u) { s with heap := h', toks := tk }) :
    wpAny (model prog w) A (PySem.call (.builtin "BaseException.__repr__.under") [.ref e, rawInt base]) Q E s := by
  have xs := excC_keeps x hk0
  refine wpAny_call (codeAny_call_builtin F.plain_bexc_repr_under F.entry_bexc_repr_under ?_)
  rw [F.check_bexc_repr_under]
  refine wpAny_pure ?_
  show wpAny _ _ (reprTwin "BaseException.__repr__" Builtin.bexcReprAt ⟨[.ref e, rawInt base], []⟩) _ _ _
  rw [reprTwin_eq]
  refine wpAny_bind (@PySem.W.check_slot (model prog w) _ _ s "BaseException.__repr__" "BaseException" "__repr__" (.ref e) [] [] _ (by decide +kernel) (by decide +kernel) (xs.LI hB) (F.args_bexc_repr _) ?_)
  refine wpAny_mono (body_C (A := A.in1) x ht hn hb hg hcl (by show A.units + 1 + 2 < cLine; omega) hk0 hQ) (fun f s' ⟨v, e1, q⟩ => ?_) fun _ _ z => z
  subst e1
  exact q
theorem ownK {h₀ : Heap} {nm : PySem.Str} (x : PySem.ExcC K C e t0 h₀) (ht : h₀.TupAt t0 []) (hs : findIn K (.ref C) "__repr__" = some (some (.builtin "BaseException.__repr__"))) (hB : subIn K (.ref C) (.type "BaseException") = some true) (hn : nameOf K C nm) :
    ReprK prog w [t0] h₀ 3 (.ref e) (excName nm ++ PySem.Str.ofString "()") := by
  intro base hb A g E s Q hg hcl hu hk0 hQ
  have xs := excC_keeps x hk0
  have hf : Looks (model prog w) s.heap (typeLookup (.ref C) "__repr__") (some (.builtin "BaseException.__repr__")) := looks_findIn xs.1 hs
  have e2 : (PySem.Str.ofString "()").length = 2 := by rw [ofString_length]; rfl
  have hl : base + ((excName nm).length + 2) ≤ sizeLine := by rw [len_app, e2] at hb; exact hb
  refine wpAny_pyReprUnder_ref (by omega) ?_
  unfold pyReprObjUnder pyReprObjBy
  refine wpAny_bind (wpAny_cRoomFor (by omega) ?_)
  refine wpAny_bind ?_
  unfold specialOf
  refine wpAny_bind (xs.LT.here (hf.here ?_))
  simp only [F.excStr_Exception.repr.bind]
  rw [if_neg (fun z => by cases z)]
  refine wpAny_bind (by_C (name := PySem.Str.ofString "__repr__") xs.LT hf (F.excStr_Exception.repr.bind _) ?_)
  show wpAny _ A (PySem.call (.builtin "BaseException.__repr__.under") [.ref e, rawInt base]) _ _ s
  refine under_C x ht hs hB hn hl hg hcl hu hk0 fun h' tk u hk => ?_
  exact wpAny_bind (wpAny_isInstance (T := "str") (b := true) rfl isSubtype_str_str (wpAny_pure ⟨_, _, rfl, hQ h' tk hk⟩))
end
end Mi
end MiReprS

section MiRepr2S
set_option Elab.async false
set_option linter.all false
set_option maxRecDepth 100000
namespace Mi
open PySem L2
/-! ### what repr gives, by the store -/
def optAll {α : Type} : List (Option α) → Option (List α)
  | [] => some []
  | none :: _ => none
  | some x :: r => (optAll r).map (x :: ·)
def reprS (nm : Nat → PySem.Str) (M : Store) : Nat → Val → Option PySem.Str
  | 0, _ => none
  | n + 1, v => match v with
    | .non => some "None"
    | .bl b => some (if b then "True" else "False")
    | .int i => if i.natAbs.log2 < 1920 then some (toString i : String) else none
    | .str s => if (reprText (toS s)).length ≤ sizeLine then some (reprText (toS s)) else none
    | .tup xs => (optAll (xs.map (reprS nm M n))).map tupleText
    | .frz _ => none
    | .fn _ => none
    | .ref k => match M[k]? with
      | some (.lst xs) => (optAll (xs.map (reprS nm M n))).map listText
      | some (.dic kvs) => (optAll (kvs.map fun p => (reprS nm M n p.1).bind fun a => (reprS nm M n p.2).map fun b => a ++ ": " ++ b)).map dictText
      | some (.exv c) => if 2 ≤ n then some (excName (nm c) ++ PySem.Str.ofString "()") else none
      | none => none
theorem optAll_mono {α β : Type} {f g : α → Option β} : ∀ {l : List α} {zs : List β}, (∀ x ∈ l, ∀ z, f x = some z → g x = some z) → optAll (l.map f) = some zs → optAll (l.map g) = some zs
  | [], _, _, h => h
  | x :: l, zs, k, h => by
    cases e : f x with
    | none => simp [optAll, e] at h
    | some y =>
      simp only [List.map_cons, e, optAll] at h
      obtain ⟨ys, h1, rfl⟩ := Option.map_eq_some_iff.mp h
      simp only [List.map_cons, k x List.mem_cons_self y e, optAll, optAll_mono (fun a ha => k a (List.mem_cons_of_mem _ ha)) h1]
      rfl
theorem optAll_mem {α β : Type} {f : α → Option β} : ∀ {l : List α} {zs : List β}, optAll (l.map f) = some zs → ∀ x ∈ l, ∃ z, f x = some z
  | [], _, _, x, hx => by cases hx
  | y :: l, zs, h, x, hx => by
    cases e : f y with
    | none => simp [optAll, e] at h
    | some z =>
      simp only [List.map_cons, e, optAll] at h
      obtain ⟨ys, h1, rfl⟩ := Option.map_eq_some_iff.mp h
      rcases List.mem_cons.mp hx with rfl | hx
      · exact ⟨z, e⟩
      · exact optAll_mem h1 x hx
theorem reprS_mono {nm : Nat → PySem.Str} {M : Store} : ∀ {n : Nat} {v : Val} {z : PySem.Str}, reprS nm M n v = some z → reprS nm M (n + 1) v = some z
  | 0, _, _, h => by cases h
  | n + 1, v, z, h => by
    have ih := @reprS_mono nm M n
    unfold reprS at h ⊢
    cases v with
    | non => exact h
    | bl b => exact h
    | int i => exact h
    | str s => exact h
    | frz xs => exact h
    | fn x => exact h
    | tup xs =>
      obtain ⟨zs, h1, rfl⟩ := Option.map_eq_some_iff.mp h
      exact Option.map_eq_some_iff.mpr ⟨zs, optAll_mono (fun x _ y e => ih e) h1, rfl⟩
    | ref k =>
      simp only at h ⊢
      cases em : M[k]? with
      | none => rw [em] at h; exact h
      | some o =>
        rw [em] at h
        cases o with
        | lst xs =>
          obtain ⟨zs, h1, rfl⟩ := Option.map_eq_some_iff.mp h
          exact Option.map_eq_some_iff.mpr ⟨zs, optAll_mono (fun x _ y e => ih e) h1, rfl⟩
        | dic kvs =>
          obtain ⟨zs, h1, rfl⟩ := Option.map_eq_some_iff.mp h
          refine Option.map_eq_some_iff.mpr ⟨zs, optAll_mono (fun p _ y e => ?_) h1, rfl⟩
          obtain ⟨a, ea, e⟩ := Option.bind_eq_some_iff.mp e
          obtain ⟨b, eb, rfl⟩ := Option.map_eq_some_iff.mp e
          exact Option.bind_eq_some_iff.mpr ⟨a, ih ea, Option.map_eq_some_iff.mpr ⟨b, ih eb, rfl⟩⟩
        | exv c =>
          simp only at h ⊢
          split at h
          · rename_i hn
            rw [if_pos (by omega)]
            exact h
          · cases h
theorem reprS_le {nm : Nat → PySem.Str} {M : Store} {n m : Nat} {v : Val} {z : PySem.Str} (h : reprS nm M n v = some z) (l : n ≤ m) : reprS nm M m v = some z := by
  induction l with
  | refl => exact h
  | step _ ih => exact reprS_mono ih
/-! ### one address, one value -/
section
variable {X : Cx} {pins : List (Addr × PySem.Obj)} {σ : L2.St} {H : Hp} {s : Shared} {G : Gs} {ι : List Addr} {M : Store} {nm : Nat → PySem.Str}
theorem heapCls (I : Inv X pins σ H s) (gk : G.K = X.K) {o : Obj} {a : Addr} (h : OR G ι H o a) : ∃ u, s.heap.get? a = some u ∧ u.cls ≠ .type "tuple" := by
  cases o with
  | lst xs =>
    obtain ⟨vs, e, _⟩ := h
    obtain ⟨_, its, n, _, e2⟩ := I.hok a _ e
    exact ⟨_, e2, fun z => by simp at z⟩
  | dic ks =>
    obtain ⟨ws, e, _⟩ := h
    obtain ⟨_, _, _, _, o, _, _, e2, hd, _⟩ := I.hok a _ e
    exact ⟨o, e2, fun z => by have := hd.1; rw [z] at this; simp at this⟩
  | exv c =>
    obtain ⟨t, e, _⟩ := h
    obtain ⟨⟨oe, vs, e2, hz, _⟩, _, _⟩ := I.hok a _ e
    exact ⟨oe, e2, fun z => by have := hz.1; rw [z] at this; cases this⟩
end
end Mi
end MiRepr2S

section MiRepr3S
set_option Elab.async false
set_option linter.all false
set_option maxRecDepth 100000
namespace Mi
open PySem L2
theorem VR.str_inv {K : PySem.W.Frag} {ι : List Addr} {H : Hp} {y : Val} {v : V} {z : PySem.Str} (h : VR K ι H y v) (e : v = .str z) : ∃ t, y = .str t ∧ z = toS t := by
  cases h <;> first | (cases e; done) | skip
  rename_i s hs
  exact ⟨s, rfl, (V.str.inj e).symm⟩
section
variable {X : Cx} {pins : List (Addr × PySem.Obj)} {σ : L2.St} {H : Hp} {s : Shared} {G : Gs} {ι : List Addr} {M : Store} {nm : Nat → PySem.Str}
theorem HR.got (hr : HR G ι M H) {k : Nat} {a : Addr} (e : ι[k]? = some a) : ∃ o, M[k]? = some o ∧ OR G ι H o a := by
  have hk : k < ι.length := (List.getElem?_eq_some_iff.mp e).1
  have hm : k < M.length := by rw [← hr.len]; exact hk
  exact ⟨M[k], List.getElem?_eq_getElem hm, hr.obj k _ a (List.getElem?_eq_getElem hm) e⟩
theorem notBoth (I : Inv X pins σ H s) (gk : G.K = X.K) (hr : HR G ι M H) {k : Nat} {a : Addr} {vs : List V} (e : ι[k]? = some a) (q : SqT G.K H a vs) : False := by
  obtain ⟨o, _, ho⟩ := hr.got e
  obtain ⟨u, e2, hc⟩ := heapCls I gk ho
  obtain ⟨its, _, ⟨o3, e3, hc3, _⟩, _⟩ := I.tuple (show SqT X.K H a vs by rw [← gk]; exact q)
  rw [e2] at e3
  cases e3
  exact hc hc3
theorem det_all {n : Nat} (ih : ∀ x y v, (reprS nm M n x).isSome = true → (reprS nm M n y).isSome = true → VR G.K ι H x v → VR G.K ι H y v → x = y) : ∀ {xs ys : List Val} {vs : List V}, (∀ x ∈ xs, (reprS nm M n x).isSome = true) → (∀ x ∈ ys, (reprS nm M n x).isSome = true) → VRs G.K ι H xs vs → VRs G.K ι H ys vs → xs = ys
  | [], ys, vs, _, _, h, k => by cases h; cases k; rfl
  | x :: xs, ys, vs, hx, hy, h, k => by
    cases h with
    | cons h1 h2 => cases k with
      | cons k1 k2 =>
        rw [ih _ _ _ (hx _ List.mem_cons_self) (hy _ List.mem_cons_self) h1 k1, det_all ih (fun a ha => hx a (List.mem_cons_of_mem _ ha)) (fun a ha => hy a (List.mem_cons_of_mem _ ha)) h2 k2]
theorem some_of_tup {n : Nat} {xs : List Val} (h : (reprS nm M (n + 1) (.tup xs)).isSome = true) : ∀ x ∈ xs, (reprS nm M n x).isSome = true := fun x hx => by
  obtain ⟨z, hz⟩ := Option.isSome_iff_exists.mp h
  unfold reprS at hz
  obtain ⟨zs, h1, _⟩ := Option.map_eq_some_iff.mp hz
  obtain ⟨y, hy⟩ := optAll_mem h1 x hx
  rw [hy]; rfl
theorem det (I : Inv X pins σ H s) (gk : G.K = X.K) (hr : HR G ι M H) : ∀ (n : Nat) (x y : Val) (v : V), (reprS nm M n x).isSome = true → (reprS nm M n y).isSome = true → VR G.K ι H x v → VR G.K ι H y v → x = y
  | 0, x, y, v, hx, _, _, _ => by unfold reprS at hx; cases hx
  | n + 1, x, y, v, hx, hy, h, k => by
    cases h with
    | non => cases k; rfl
    | bl b => cases k; rfl
    | int i => cases k; rfl
    | str t ht =>
      obtain ⟨t2, e1, e2⟩ := k.str_inv rfl
      rw [e1, toS_inj e2]
    | frz q r => unfold reprS at hx; cases hx
    | fn x => unfold reprS at hx; cases hx
    | tup q r =>
      cases k with
      | fn x => unfold reprS at hy; cases hy
      | frz q2 r2 => unfold reprS at hy; cases hy
      | ref e => exact (notBoth I gk hr e q).elim
      | tup q2 r2 =>
        have e := I.tuple_inj (show SqT X.K H _ _ by rw [← gk]; exact q) (show SqT X.K H _ _ by rw [← gk]; exact q2)
        subst e
        rw [det_all (det I gk hr n) (some_of_tup hx) (some_of_tup hy) r r2]
    | ref e =>
      cases k with
      | fn x => unfold reprS at hy; cases hy
      | frz q2 r2 => unfold reprS at hy; cases hy
      | tup q2 r2 => exact (notBoth I gk hr e q2).elim
      | ref e2 =>
        obtain ⟨h1, h2⟩ := List.getElem?_eq_some_iff.mp e
        obtain ⟨h3, h4⟩ := List.getElem?_eq_some_iff.mp e2
        rw [(List.getElem_inj hr.inj).mp (h2.trans h4.symm)]
/-- what is known of the exceptions' classes -/
structure NmOk (K : PySem.W.Frag) (C : Addr) (x : PySem.Str) : Prop where
  rp : PySem.W.findIn K (.ref C) "__repr__" = some (some (.builtin "BaseException.__repr__"))
  nm : nameOf K C x
def Ok (G : Gs) (ι : List Addr) (H : Hp) (nm : Nat → PySem.Str) (M : Store) (n : Nat) (as : List Addr) : Prop := ∀ b ∈ as, ∃ y, VR G.K ι H y (.ref b) ∧ (reprS nm M n y).isSome = true
theorem Ok.le {n m : Nat} {as : List Addr} (h : Ok G ι H nm M n as) (l : n ≤ m) : Ok G ι H nm M m as := fun b hb => by
  obtain ⟨y, h1, h2⟩ := h b hb
  obtain ⟨z, hz⟩ := Option.isSome_iff_exists.mp h2
  exact ⟨y, h1, by rw [reprS_le hz l]; rfl⟩
theorem Ok.app {n : Nat} {as bs : List Addr} (h : Ok G ι H nm M n as) (k : Ok G ι H nm M n bs) : Ok G ι H nm M n (as ++ bs) := fun b hb => (List.mem_append.mp hb).elim (h b) (k b)
/-- the address of what is shown now is none of its parts' -/
theorem notIn (I : Inv X pins σ H s) (gk : G.K = X.K) (hr : HR G ι M H) {n : Nat} {x : Val} {a : Addr} {as : List Addr} (hx : (reprS nm M (n + 1) x).isSome = true) (hn : ¬ (reprS nm M n x).isSome = true) (r : VR G.K ι H x (.ref a)) (h : Ok G ι H nm M n as) : a ∉ as := fun z => by
  obtain ⟨y, h1, h2⟩ := h a z
  have hy : (reprS nm M (n + 1) y).isSome = true := by
    obtain ⟨t, ht⟩ := Option.isSome_iff_exists.mp h2
    rw [reprS_mono ht]; rfl
  have e := det (nm := nm) I gk hr (n + 1) x y _ hx hy r h1
  rw [e] at hn
  exact hn h2
end
end Mi
end MiRepr3S

section MiRepr4S
set_option Elab.async false
set_option linter.all false
set_option maxRecDepth 100000
namespace Mi
open PySem L2
/-- a value's text, within others and by itself -/
structure Sh (P : Program) (w : World) (h : Heap) (as : List Addr) (d : Nat) (u : Value) (t : PySem.Str) : Prop where
  k : ReprK P w as h d u t
  top : ∀ (A : Around) (E : Value → Shared → Prop) (z : Shared) (Q : Value → Shared → Prop), A.guards = some [] → A.units + (d + 2) < cLine → (∀ b o, h.get? b = some o → z.heap.get? b = some o) → t.length ≤ sizeLine →
    (∀ h' tk y, (∀ b o, z.heap.get? b = some o → h'.get? b = some o) → Q (.str t y) { z with heap := h', toks := tk }) → wpAny (model P w) A (PySem.call (.builtin "repr") [u]) Q E z
section
variable {P : Program} {w : World} {h : Heap} {as : List Addr} {d : Nat}
theorem sh_non : Sh P w h as d .none "None" := ⟨ReprK.of_is ReprIs.none as h d, fun A E z Q _ _ _ _ hQ => PySem.P.repr_of_none (hQ z.heap _ _ fun _ _ e => e)⟩
theorem sh_bl {b : Bool} : Sh P w h as d (.bool b) (if b then "True" else "False") := ⟨ReprK.of_is (ReprIs.bool b) as h d, fun A E z Q _ _ _ _ hQ => PySem.P.repr_of_bool (hQ z.heap _ _ fun _ _ e => e)⟩
theorem sh_int {i : Int} {t : Tok} (hi : i.natAbs.log2 < 1920) : Sh P w h as d (.int i t) (toString i : String) := ⟨ReprK.of_is (ReprIs.int t hi) as h d, fun A E z Q _ _ _ _ hQ => PySem.P.repr_of_int hi (hQ z.heap _ _ fun _ _ e => e)⟩
theorem sh_str {x : PySem.Str} {t : Tok} (hx : (reprText x).length ≤ sizeLine) : Sh P w h as d (.str x t) (reprText x) := ⟨ReprK.of_is (ReprIs.str x t hx) as h d, fun A E z Q _ _ _ _ hQ => PySem.P.repr_of_str (hQ z.heap _ _ fun _ _ e => e) hx⟩
theorem sh_tup {a : Addr} {its : List Value} {ts : List PySem.Str} (ht : PyProof.Rows.IsTup h a its.toArray) (na : a ∉ as) (hT : ReprAllK P w as h d its ts) : Sh P w h (a :: as) (d + 1) (.ref a) (tupleText ts) := by
  obtain ⟨o, h1, h2, n, h3⟩ := ht
  refine ⟨ReprK.tuple h1 h2 h3 na (by simpa using hT), fun A E z Q hg hu hk hz hQ => ?_⟩
  refine call_repr_slot (by omega) ⟨o, hk _ _ h1, h2⟩ F.slot_tuple_repr ?_
  exact call_tuple_reprK (A := A.in1) (g := []) h1 h2 h3 na (by simpa using hT) hg (fun b _ => Clear.nil b) (by show A.units + 1 + (d + 1) < cLine; omega) hk (fun h' y tk q => ⟨_, _, rfl, hQ h' tk y q⟩) hz
theorem sh_lst {a : Addr} {its : List Value} {n : Nat} {o : PySem.Obj} {ts : List PySem.Str} (h1 : h.get? a = some o) (h2 : o.cls = .type "list") (h3 : o.data = .seq its.toArray n) (na : a ∉ as) (hT : ReprAllK P w as h d its ts) : Sh P w h (a :: as) (d + 1) (.ref a) (listText ts) := by
  cases its with
  | nil =>
    cases hT
    rw [listText_nil]
    refine ⟨(ReprK.listEmpty h1 h2 h3).more (fun b hb => hb), fun A E z Q hg hu hk hz hQ => ?_⟩
    refine call_repr_slot (by omega) ⟨o, hk _ _ h1, h2⟩ F.slot_list_repr.toG ?_
    exact call_list_repr_empty ⟨o, hk _ _ h1, h2⟩ (hk _ _ h1) h3 ⟨_, _, rfl, hQ z.heap _ _ fun _ _ e => e⟩
  | cons x l =>
    have hl : ts.length = (x :: l).toArray.size := by simpa using hT.length_eq
    have hi : ∀ (i : Nat) (y : Value), (x :: l).toArray[i]? = some y → ∃ t, ts[i]? = some t ∧ ReprK P w as h d y t := fun i y e => hT.item i y (by simpa using e)
    refine ⟨ReprK.list h1 h2 h3 na hl hi, fun A E z Q hg hu hk hz hQ => ?_⟩
    refine call_repr_slot (by omega) ⟨o, hk _ _ h1, h2⟩ F.slot_list_repr.toG ?_
    exact call_list_reprK (A := A.in1) (g := []) h1 h2 h3 na hl hi hg (fun b _ => Clear.nil b) (by show A.units + 1 + (d + 1) < cLine; omega) hk (fun h' y tk q => ⟨_, _, rfl, hQ h' tk y q⟩) hz
theorem sh_dic {a : Addr} {es : Array DictEntry} {n : Nat} {o : PySem.Obj} {ts : List PySem.Str} (h1 : h.get? a = some o) (h2 : o.cls = .type "dict") (h3 : o.data = .dict es n) (hs : (a == sysModules) = false) (na : a ∉ as) (hT : ReprEntriesK P w as h d es.toList ts) : Sh P w h (a :: as) (d + 1) (.ref a) (dictText ts) := by
  refine ⟨ReprK.dict h1 h2 h3 hs na hT, fun A E z Q hg hu hk hz hQ => ?_⟩
  refine call_repr_slot (by omega) ⟨o, hk _ _ h1, h2⟩ F.slot_dict_repr ?_
  exact call_dict_reprK (A := A.in1) (g := []) h1 h2 h3 hs na hT hg (fun b _ => Clear.nil b) (by show A.units + 1 + (d + 1) < cLine; omega) hk (fun h' y tk q => ⟨_, _, rfl, hQ h' tk y q⟩) hz
end
section
open Builtin Builtin.BaseException
open PySem.W (Looks findIn subIn looks_findIn)
variable {prog : Program} {w : World} {M : Model} {A : Around} {E : Value → Shared → Prop} {s : Shared} {K : PySem.W.Frag} {C e t0 : Addr}
theorem callTop_C {h₀ : Heap} {nm : PySem.Str} {Q : Value → Shared → Prop} (x : PySem.ExcC K C e t0 h₀) (ht : h₀.TupAt t0 []) (hs : findIn K (.ref C) "__repr__" = some (some (.builtin "BaseException.__repr__"))) (hB : subIn K (.ref C) (.type "BaseException") = some true) (hn : nameOf K C nm)
    (hb : (excName nm).length + 2 ≤ sizeLine) (hg : A.guards = some []) (hu : A.units + 4 < cLine) (hk0 : ∀ b o, h₀.get? b = some o → s.heap.get? b = some o) (hQ : ∀ h' tk u, (∀ b o, s.heap.get? b = some o → h'.get? b = some o) → Q (.str (excName nm ++ PySem.Str.ofString "()") u) { s with heap := h', toks := tk }) :
    wpAny (model prog w) A (PySem.call (.builtin "BaseException.__repr__") [.ref e]) Q E s := by
  have xs := excC_keeps x hk0
  refine wpAny_call (codeAny_call_builtin F.excStr_Exception.repr.plain F.entry_bexc_repr (@PySem.W.check_slot (model prog w) _ _ s "BaseException.__repr__" "BaseException" "__repr__" (.ref e) [] [] _ (by decide +kernel) (by decide +kernel) (xs.LI hB) (F.args_bexc_repr _) ?_))
  refine wpAny_mono (body_C (base := 0) (A := A.in1) (g := []) x ht hn (by rw [Nat.zero_add]; exact hb) hg (fun b _ => Clear.nil b) (by show A.units + 1 + 2 < cLine; omega) hk0 hQ) (fun fin s' hv => by obtain ⟨v, rfl, q⟩ := hv; exact q) fun _ _ z => z
end
end Mi
end MiRepr4S

section MiRepr5S
set_option Elab.async false
set_option linter.all false
set_option maxRecDepth 100000
namespace Mi
section
open PySem Builtin Builtin.BaseException
open PySem.W (Looks findIn subIn looks_findIn)
variable {prog : Program} {w : World} {M : Model} {A : Around} {E : Value → Shared → Prop} {s : Shared} {K : PySem.W.Frag} {C e t0 : Addr}
theorem sh_own {h : Heap} {nm : PySem.Str} (x : PySem.ExcC K C e t0 h) (ht : h.TupAt t0 []) (hs : findIn K (.ref C) "__repr__" = some (some (.builtin "BaseException.__repr__"))) (hB : subIn K (.ref C) (.type "BaseException") = some true) (hn : nameOf K C nm) :
    Sh prog w h [t0] 3 (.ref e) (excName nm ++ PySem.Str.ofString "()") := by
  refine ⟨ownK x ht hs hB hn, fun A E z Q hg hu hk hz hQ => ?_⟩
  have xs := excC_keeps x hk
  have hf : Looks (model prog w) z.heap (typeLookup (.ref C) "__repr__") (some (.builtin "BaseException.__repr__")) := looks_findIn xs.1 hs
  have e2 : (PySem.Str.ofString "()").length = 2 := by rw [ofString_length]; rfl
  have hl : (excName nm).length + 2 ≤ sizeLine := by rw [len_app, e2] at hz; exact hz
  refine Calls.call_function_entry F.kind_repr F.plain_repr F.entry_repr (F.args_repr1 _) ?_
  unfold Builtin.«repr»
  refine wpAny_bind (m := oneArg "repr" _) (wpAny_pure ?_)
  refine wpAny_bind (m := cRoomFor _ _) (wpAny_cRoomFor (by show A.units + 1 < cLine; omega) ?_)
  refine wpAny_bind ?_
  unfold specialOf
  refine wpAny_bind (xs.LT.here (hf.here ?_))
  simp only [F.excStr_Exception.repr.bind]
  rw [if_neg (fun z => by cases z)]
  refine wpAny_bind (by_C (last := fun g first => PySem.call g (first ++ [])) (name := PySem.Str.ofString "__repr__") xs.LT hf (F.excStr_Exception.repr.bind _) ?_)
  show wpAny _ A.in1 (PySem.call (.builtin "BaseException.__repr__") [.ref e]) _ _ z
  refine callTop_C (A := A.in1) x ht hs hB hn hl hg (by show A.units + 1 + 4 < cLine; omega) hk fun h' tk u q => ?_
  exact wpAny_bind (wpAny_isInstance (T := "str") (b := true) rfl isSubtype_str_str (wpAny_pure ⟨_, rfl, hQ h' tk u q⟩))
end
section
open PySem L2
variable {X : Cx} {pins : List (Addr × PySem.Obj)} {σ : L2.St} {H : Hp} {s : Shared} {G : Gs} {ι : List Addr} {M : Store} {nm : Nat → PySem.Str}
theorem all_k {n : Nat} (ih : ∀ x v u z, VR G.K ι H x v → RelV v u → reprS nm M n x = some z → ∃ as, Ok G ι H nm M n as ∧ ReprK X.prog X.w as s.heap n u z) : ∀ {xs : List Val} {vs : List V} {us : List Value} {zs : List PySem.Str}, VRs G.K ι H xs vs → Vals vs us → optAll (xs.map (reprS nm M n)) = some zs →
    ∃ as, Ok G ι H nm M n as ∧ ReprAllK X.prog X.w as s.heap n us zs
  | [], vs, us, zs, r, k, h => by
    cases r
    cases k
    cases h
    exact ⟨[], (fun b hb => nomatch hb), .nil⟩
  | x :: xs, vs, us, zs, r, k, h => by
    cases r with
    | cons r1 r2 => cases k with
      | cons k1 k2 =>
        cases e : reprS nm M n x with
        | none => simp [optAll, e] at h
        | some z =>
          simp only [List.map_cons, e, optAll] at h
          obtain ⟨ys, h1, rfl⟩ := Option.map_eq_some_iff.mp h
          obtain ⟨a1, o1, q1⟩ := ih _ _ _ _ r1 k1 e
          obtain ⟨a2, o2, q2⟩ := all_k ih r2 k2 h1
          exact ⟨a1 ++ a2, o1.app o2, .cons (q1.more fun b hb => List.mem_append_left _ hb) (q2.more_le (fun b hb => List.mem_append_right _ hb) (Nat.le_refl _))⟩
theorem entries_more {P : Program} {w : World} {h : Heap} {as bs : List Addr} {d : Nat} (sub : ∀ b ∈ as, b ∈ bs) : ∀ {es : List DictEntry} {ps : List PySem.Str}, ReprEntriesK P w as h d es ps → ReprEntriesK P w bs h d es ps
  | _, _, .nil => .nil
  | _, _, .cons a b r => .cons (a.more sub) (b.more sub) (entries_more sub r)
theorem all_d {n : Nat} (ih : ∀ x v u z, VR G.K ι H x v → RelV v u → reprS nm M n x = some z → ∃ as, Ok G ι H nm M n as ∧ ReprK X.prog X.w as s.heap n u z) : ∀ {ks : List (Val × Val)} {ws : List (Key × V)} {vs : List (Key × Value)} {es : List DictEntry} {zs : List PySem.Str}, KVs G.K ι H ks ws → KV ws vs → Pairs (mixKind X.prog X.w) es vs →
    optAll (ks.map fun p => (reprS nm M n p.1).bind fun a => (reprS nm M n p.2).map fun b => a ++ ": " ++ b) = some zs → ∃ as, Ok G ι H nm M n as ∧ ReprEntriesK X.prog X.w as s.heap n es zs
  | [], ws, vs, es, zs, r, k, p, h => by
    cases r
    cases k
    cases p
    cases h
    exact ⟨[], (fun b hb => nomatch hb), .nil⟩
  | x :: xs, ws, vs, es, zs, r, k, p, h => by
    cases r with
    | cons r1 r2 => cases k with
      | cons k1 k2 => cases p with
        | cons p1 p2 p3 =>
          rename_i w1 w2 v1 v2 e1 es
          cases ea : reprS nm M n x.1 with
          | none => simp [optAll, ea] at h
          | some za =>
            cases eb : reprS nm M n x.2 with
            | none => simp [optAll, ea, eb] at h
            | some zb =>
              simp only [List.map_cons, ea, eb, optAll, Option.bind_some, Option.map_some] at h
              obtain ⟨ys, h1, rfl⟩ := Option.map_eq_some_iff.mp h
              obtain ⟨a2, o2, q2⟩ := all_d ih r2 k2 p3 h1
              have rk : ∃ kv, VR G.K ι H x.1 kv ∧ RelV kv e1.key := by
                have pk : keyIs v1.1 e1.key = true := p1
                rw [← k1.1] at pk
                refine ⟨kV w1.1, r1.1.2, ?_⟩
                rcases keyIs_shape pk with ⟨i, t, ek, ev⟩ | ⟨y, t, ek, ev⟩
                · rw [ek, ev]; exact ⟨t, rfl⟩
                · rw [ek, ev]; exact ⟨t, rfl⟩
              obtain ⟨kv, rk1, rk2⟩ := rk
              obtain ⟨a1, o1, q1⟩ := ih _ _ _ _ rk1 rk2 ea
              obtain ⟨a3, o3, q3⟩ := ih _ _ _ _ r1.2 (show RelV w1.2 e1.val by rw [p2]; exact k1.2) eb
              exact ⟨a1 ++ (a3 ++ a2), o1.app (o3.app o2), .cons (q1.more fun b hb => List.mem_append_left _ hb) (q3.more fun b hb => List.mem_append_right _ (List.mem_append_left _ hb)) (entries_more (fun b hb => List.mem_append_right _ (List.mem_append_right _ hb)) q2)⟩
end
end Mi
end MiRepr5S

section MiRepr6S
set_option Elab.async false
set_option linter.all false
set_option maxRecDepth 100000
namespace Mi
open PySem L2
section
variable {X : Cx} {pins : List (Addr × PySem.Obj)} {σ : L2.St} {H : Hp} {s : Shared} {G : Gs} {ι : List Addr} {M : Store} {nm : Nat → PySem.Str}
/-- what is shown now, from what its parts show -/
theorem showN (I : Inv X pins σ H s) (gk : G.K = X.K) (hr : HR G ι M H) (ck : ∀ c, NmOk X.K (G.cls c) (nm c)) (cb : ∀ c, ExcC X.K (G.cls c)) {n : Nat} (ih : ∀ x v u z, VR G.K ι H x v → RelV v u → reprS nm M n x = some z → ∃ as, Ok G ι H nm M n as ∧ ReprK X.prog X.w as s.heap n u z) {x : Val} {v : V} {u : Value} {z : PySem.Str}
    (r : VR G.K ι H x v) (rv : RelV v u) (e : reprS nm M (n + 1) x = some z) (hn : ¬ (reprS nm M n x).isSome = true) : ∃ as, Ok G ι H nm M (n + 1) as ∧ Sh X.prog X.w s.heap as (n + 1) u z := by
  have e0 := e
  have hx : (reprS nm M (n + 1) x).isSome = true := by rw [e]; rfl
  have self : ∀ {a : Addr} {as : List Addr}, v = .ref a → Ok G ι H nm M n as → Ok G ι H nm M (n + 1) (a :: as) := fun {a as} ev o b hb => by
    rcases List.mem_cons.mp hb with rfl | hb
    · exact ⟨x, by rw [← ev]; exact r, hx⟩
    · exact (o.le (Nat.le_succ n)) b hb
  unfold reprS at e
  cases r with
  | fn x => unfold reprS at e; cases e
  | non => cases e; cases rv; exact ⟨[], (fun b hb => nomatch hb), sh_non⟩
  | bl b => cases e; cases rv; exact ⟨[], (fun b hb => nomatch hb), sh_bl⟩
  | int i =>
    obtain ⟨t, rfl⟩ := rv
    simp only at e
    split at e
    · rename_i hi
      cases e
      exact ⟨[], (fun b hb => nomatch hb), sh_int hi⟩
    · cases e
  | str y hy =>
    obtain ⟨t, rfl⟩ := rv
    simp only at e
    split at e
    · rename_i hi
      cases e
      exact ⟨[], (fun b hb => nomatch hb), sh_str hi⟩
    · cases e
  | frz q r2 => cases e
  | @tup a xs vs q r2 =>
    obtain ⟨zs, h1, rfl⟩ := Option.map_eq_some_iff.mp e
    cases rv
    obtain ⟨its, rv2, ht, _⟩ := I.tuple (show SqT X.K H a vs by rw [← gk]; exact q)
    obtain ⟨as, o, k⟩ := all_k ih r2 rv2 h1
    exact ⟨a :: as, self rfl o, sh_tup ht (notIn I gk hr hx hn (.tup q r2) o) k⟩
  | @ref k a ea =>
    cases rv
    simp only at e
    obtain ⟨ob, em, ho⟩ := hr.got ea
    rw [em] at e
    cases ob with
    | lst xs =>
      obtain ⟨zs, h1, rfl⟩ := Option.map_eq_some_iff.mp e
      obtain ⟨vs, e1, r2⟩ := ho
      obtain ⟨_, its, m, rv2, e2⟩ := I.hok a _ e1
      obtain ⟨as, o, kk⟩ := all_k ih r2 rv2 h1
      exact ⟨a :: as, self rfl o, sh_lst e2 rfl rfl (notIn I gk hr hx hn (.ref ea) o) kk⟩
    | dic ks =>
      obtain ⟨zs, h1, rfl⟩ := Option.map_eq_some_iff.mp e
      obtain ⟨ws, e1, r2⟩ := ho
      obtain ⟨_, hsys, vs, rv2, od, es, ep, e2, hd, hdat, _, hp, _⟩ := I.hok a _ e1
      obtain ⟨as, o, kk⟩ := all_d ih r2 rv2 hp h1
      exact ⟨a :: as, self rfl o, sh_dic e2 hd.1 hdat hsys (notIn I gk hr hx hn (.ref ea) o) kk⟩
    | exv c =>
      simp only at e
      split at e
      · rename_i h2
        cases e
        obtain ⟨t, e1, e3⟩ := ho
        obtain ⟨⟨oe, vs, g1, hz, hv, h0, _⟩, _, _⟩ := I.hok a _ e1
        obtain ⟨_, its, rv2, o2, g2, c2, m2, d2⟩ := I.hok t _ e3
        cases rv2
        have xc : PySem.ExcC X.K (G.cls c) a t s.heap := ⟨I.kIn, oe, vs, g1, hz.1, hv, h0⟩
        have S := sh_own (prog := X.prog) (w := X.w) xc ⟨o2, m2, g2, c2, d2⟩ (ck c).rp (cb c).hs (ck c).nm
        refine ⟨[t], fun b hb => ?_, ⟨S.k.level_le (by omega), fun A E z Q hg hu hk hz hQ => S.top A E z Q hg (by omega) hk hz hQ⟩⟩
        have eb : b = t := by simpa using hb
        subst eb
        refine ⟨.tup [], .tup (SqT.of e3) .nil, ?_⟩
        have : reprS nm M (n + 1) (.tup []) = some (tupleText []) := rfl
        rw [this]; rfl
      · cases e
theorem shows (I : Inv X pins σ H s) (gk : G.K = X.K) (hr : HR G ι M H) (ck : ∀ c, NmOk X.K (G.cls c) (nm c)) (cb : ∀ c, ExcC X.K (G.cls c)) : ∀ (n : Nat) (x : Val) (v : V) (u : Value) (z : PySem.Str), VR G.K ι H x v → RelV v u → reprS nm M n x = some z → ∃ as, Ok G ι H nm M n as ∧ Sh X.prog X.w s.heap as n u z
  | 0, x, v, u, z, _, _, e => by unfold reprS at e; cases e
  | n + 1, x, v, u, z, r, rv, e => by
    by_cases hn : (reprS nm M n x).isSome = true
    · obtain ⟨y, hy⟩ := Option.isSome_iff_exists.mp hn
      have : y = z := by
        have := reprS_mono hy
        rw [e] at this
        exact (Option.some.inj this).symm
      subst this
      obtain ⟨as, o, S⟩ := shows I gk hr ck cb n x v u y r rv hy
      exact ⟨as, o.le (Nat.le_succ n), ⟨S.k.level_le (Nat.le_succ n), fun A E z Q hg hu hk hz hQ => S.top A E z Q hg (by omega) hk hz hQ⟩⟩
    · exact showN I gk hr ck cb (fun x v u z r rv e => let ⟨as, o, S⟩ := shows I gk hr ck cb n x v u z r rv e; ⟨as, o, S.k⟩) r rv e hn
end
/-- the program's repr, by the store -/
def reprP (nm : Nat → PySem.Str) (v : Val) (M : Store) : Option (List Nat) := (reprS nm M 40 v).bind fun z => if z.cps.toList.length ≤ LIM ∧ ∀ c ∈ z.cps.toList, c < 128 then some z.cps.toList else none
theorem reprP_ok {nm : Nat → PySem.Str} {v : Val} {M : Store} {z : List Nat} (h : reprP nm v M = some z) : okS z := by
  obtain ⟨y, _, h⟩ := Option.bind_eq_some_iff.mp h
  split at h
  · rename_i c
    cases h
    exact ⟨c.1, c.2⟩
  · cases h
theorem rep_ok {G : Gs} {nm : Nat → PySem.Str} (ck : ∀ c, NmOk G.K (G.cls c) (nm c)) (cb : ∀ c, ExcC G.K (G.cls c)) : RepOk G (reprP nm) 0 := by
  rintro X gk hg room hc ps s σ H xs us Q I r ⟨ι, M, a, v, z, rfl, hr, ra, e, hz, q⟩
  obtain ⟨u, rfl, ru⟩ := vals1 r
  obtain ⟨y, e1, e2⟩ := Option.bind_eq_some_iff.mp e
  split at e2
  · rename_i c
    cases e2
    have ey : toS y.cps.toList = y := by cases y; simp [toS]
    obtain ⟨as, _, S⟩ := shows (nm := nm) I gk.symm hr (fun c => by rw [gk]; exact ck c) (fun c => by rw [gk]; exact cb c) 40 a v u y ra ru e1
    refine S.top _ _ _ _ hg ?_ (fun _ _ z => z) ?_ fun h' tk t hk => ?_
    · have := room.un
      omega
    · have := c.1
      rw [← lim_eq]
      simpa [PySem.Str.length] using this
    · rw [ey] at q
      exact ⟨.str y, H, I.kept (t' := tk) hk, ⟨t, rfl⟩, q⟩
  · cases e2
end Mi
end MiRepr6S

section MiRun12S
set_option Elab.async false
set_option linter.all false
set_option maxRecDepth 100000
namespace Mi
open PySem L2
def cTg (ct : Ct) : Expr → Option Tg
  | .Name x _ => gd (stoB ct x) ((ixOf ct.N x).map .one)
  | .Tuple es _ _ => (namesAt ct es).map .many
  | _ => none
def ownOf (ct : Ct) (scope : Scope) : List (Str × Nat) := scope.names.filterMap fun p => match p.2 with
  | .local => (ixOf ct.N p.1).map fun i => (p.1, i)
  | .cell => (ixOf ct.N p.1).map fun i => (p.1, i)
  | _ => none
def isL : Expr → Bool
  | .List _ _ => true
  | .ListComp _ _ _ _ => true
  | .Call (.Name x _) [_] [] _ => decide (x = "list")
  | _ => false
mutual
def cE : Nat → Ct → Expr → Option E
  | 0, _, _ => none
  | n + 1, ct, e => if isL e then (cL n ct e).map .lst else match e with
    | .Name x _ => cName ct x
    | .Constant c _ _ => cCon c
    | .BinOp a o b _ => (opOf o).bind fun mo => (cE n ct a).bind fun ma => (cE n ct b).bind fun mb => some (.op mo ma mb)
    | .UnaryOp o a _ => match o with
      | .Not => (cE n ct a).map .not
      | .USub => (cE n ct a).map .neg
      | _ => none
    | .BoolOp o vs p => match vs with
      | [a] => cE n ct a
      | a :: b :: r => (cE n ct a).bind fun ma => (cE n ct (.BoolOp o (b :: r) p)).bind fun mb => some (match o with
        | .And => .and ma mb
        | .Or => .or ma mb)
      | _ => none
    | .Compare a os bs _ => match os, bs with
      | [o], [b] => match tabName ct b with
        | some x => (inOf o).bind fun g => (cE n ct a).map fun ma => .tin g ma x
        | none => if isL b && (inOf o).isSome then (inOf o).bind fun g => (cE n ct a).bind fun ma => (cL n ct b).bind fun l => gd (notSet b) (some (.inl g ma l)) else (cE n ct a).bind fun ma => (cE n ct b).bind fun mb => gd (notSet b) (some (.cmp (coOf o) ma mb))
      | [o, p], [b, c] => (cE n ct a).bind fun ma => (cE n ct b).bind fun mb => (cE n ct c).bind fun mc => gd (notSet c) (some (.chain (coOf o) (coOf p) ma mb mc))
      | _, _ => none
    | .IfExp c a b _ => (cQ n ct c).bind fun mc => (cE n ct a).bind fun ma => (cE n ct b).bind fun mb => some (.ite mc ma mb)
    | .Tuple es _ _ => (cEs n ct es).map .tup
    | .Dict ks vs _ => (cP n ct ks vs).bind fun ms => gd (ks.all (·.isSome) && decide (ks.length = vs.length) && !ks.isEmpty && decide (ks.length ≤ 15) && decide (ms.length ≤ 15)) (some (.dic (flatE ms)))
    | .Subscript a i _ => match i with
      | .Slice lo hi st _ => gd st.isNone ((cE n ct a).bind fun ma => (cEo n ct lo).bind fun ml => (cEo n ct hi).bind fun mh => some (.sl ma ml mh))
      | _ => gd (notSlice i) (match tabName ct a with
        | some x => (cE n ct i).map (.tget x)
        | none => if isL a then (cL n ct a).bind fun ma => (cE n ct i).bind fun mi => some (.ixl ma mi) else (cE n ct a).bind fun ma => (cE n ct i).bind fun mi => some (.ix ma mi))
    | .Call f es kw cp => gd (kw.isEmpty && es.all notStar) (match f with
      | .Name x _ => if visB ct.sc x then gd (nDbg x && nCld x && !es.isEmpty) ((ixOf ct.N x).bind fun i => (cEs n ct es).map (.callv i)) else gd (nDbg x && glB ct.sc x) (match ct.gl x with
        | some (.fn g k) => (cEs n ct es).bind fun ms => gd (decide (ms.len = k)) (some (.call g ms))
        | some (.exc c) => match es with
          | [] => some (.newx c)
          | _ => none
        | some .blt => match es with
          | [a] => if isL a && (bilOf x).isSome then (bilOf x).bind fun b => (cL n ct a).bind fun l => some (.bil b l) else (biOf x).bind fun b => (cE n ct a).bind fun ma => some (.bi b ma)
          | [a, b] => if x = "isinstance" then (match b with
            | .Name c _ => gd (bltB ct c) ((clOf c).bind fun cl => (cE n ct a).bind fun ma => some (.isi ma cl))
            | .Tuple cs _ _ => (clsAt ct cs).bind fun cl => (cE n ct a).map fun ma => .isis ma cl
            | _ => none) else (bnOf x).bind fun f => (cE n ct a).bind fun ma => (cE n ct b).bind fun mb => some (.bin f ma mb)
          | _ => none
        | _ => none)
      | .Attribute o m ap => gd (notCall0 o && (ap.endLine == cp.line)) (match mdOf m with
        | some md => (cE n ct o).bind fun mo => (cEs n ct es).bind fun ms => gd (decide (es.length < 20)) (some (.mtd md mo ms))
        | none => match es with
          | [] => (mtOf m).bind fun mm => (cE n ct o).bind fun mo => some (.mt mm mo)
          | [a] => gd (decide (m = "join")) ((cE n ct o).bind fun mo => if isL a then (cL n ct a).bind fun l => some (.join mo l) else (cE n ct a).bind fun ma => some (.joinv mo ma))
          | _ => none)
      | _ => none)
    | _ => none
/-- as a test -/
def cQ : Nat → Ct → Expr → Option E
  | 0, _, _ => none
  | n + 1, ct, e => match e with
    | .UnaryOp .Not a _ => (cQ n ct a).map .not
    | .BoolOp o vs p => match vs with
      | [a] => cQ n ct a
      | a :: b :: r => (cQ n ct a).bind fun ma => (cQ n ct (.BoolOp o (b :: r) p)).bind fun mb => some (match o with
        | .And => .and ma mb
        | .Or => .or ma mb)
      | _ => none
    | .Compare a os bs _ => match os, bs with
      | [o], [b] => match tabName ct b with
        | some x => (inOf o).bind fun g => (cE n ct a).map fun ma => .tin g ma x
        | none => if isL b && (inOf o).isSome then (inOf o).bind fun g => (cE n ct a).bind fun ma => (cL n ct b).bind fun l => gd (notSet b) (some (.inl g ma l)) else (cE n ct a).bind fun ma => (cE n ct b).bind fun mb => gd (notSet b) (some (.cmp (coOf o) ma mb))
      | [o, p], [b, c] => (cE n ct a).bind fun ma => (cE n ct b).bind fun mb => (cE n ct c).bind fun mc => gd (notSet c) (some (.chain (coOf o) (coOf p) ma mb mc))
      | _, _ => none
    | _ => gd (plainTest e) (cE n ct e)
def cEs : Nat → Ct → List Expr → Option Es
  | 0, _, _ => none
  | n + 1, ct, es => match es with
    | [] => some .nil
    | e :: r => gd (notStar e) ((cE n ct e).bind fun m => (cEs n ct r).bind fun ms => some (.cons m ms))
def cEo : Nat → Ct → Option Expr → Option Eo
  | 0, _, _ => none
  | n + 1, ct, o => match o with
    | none => some .none
    | some e => (cE n ct e).map .some
def cP : Nat → Ct → List (Option Expr) → List Expr → Option (List (E × E))
  | 0, _, _, _ => none
  | n + 1, ct, ks, vs => match ks, vs with
    | [], [] => some []
    | some k :: ks, v :: vs => (cE n ct k).bind fun mk => (cE n ct v).bind fun mv => (cP n ct ks vs).bind fun ms => some ((mk, mv) :: ms)
    | _, _ => none
/-- as a list just made -/
def cL : Nat → Ct → Expr → Option L
  | 0, _, _ => none
  | n + 1, ct, e => match e with
    | .List es _ => (cEs n ct es).map .disp
    | .Call f es kw _ => match f, es, kw with
      | .Name x _, [a], [] => gd (decide (x = "list") && bltB ct x && notStar a) (match a with
        | .Call (.Name y _) [b, c] [] _ => if y = "range" then gd (bltB ct y && notStar b && notStar c) ((cE n ct b).bind fun mb => (cE n ct c).map (.rng2 mb)) else (cE n ct a).map .list
        | _ => (cE n ct a).map .list)
      | _, _, _ => none
    | .ListComp elt gs scope _ => match gs with
      | [⟨tg, iter, ifs, a⟩] => (cS n ct tg iter).bind fun src => (cTg (ct.blk scope) tg).bind fun t => (cI n (ct.blk scope) ifs).bind fun cs => (cE n (ct.blk scope) elt).bind fun m =>
        gd (decide (a = 0) && notSet iter && blkC ct.N ct.sc scope (ownOf ct scope) && t.slots.all fun i => ((ownOf ct scope).map (·.2)).contains i) (some (.comp ((ownOf ct scope).map (·.2)) t src cs m))
      | _ => none
    | _ => none
def cS : Nat → Ct → Expr → Expr → Option Src
  | 0, _, _, _ => none
  | n + 1, ct, tg, e => if isL e then (cL n ct e).map .fresh else match e with
    | .Call f es kw _ => match f, es, kw with
      | .Name x _, [a], [] => if x = "range" then gd (bltB ct x && notStar a) ((cE n ct a).map .rng) else (cE n ct e).map .seq
      | .Name x _, [a, b], [] => if x = "range" then gd (bltB ct x && notStar a && notStar b) ((cE n ct a).bind fun ma => (cE n ct b).map (.rng2 ma)) else if x = "zip" then gd (bltB ct x && notStar a && notStar b && isTupE tg) ((cE n ct a).bind fun ma => (cE n ct b).map (.zip ma)) else (cE n ct e).map .seq
      | _, _, _ => (cE n ct e).map .seq
    | _ => (cE n ct e).map .seq
def cI : Nat → Ct → List Expr → Option Es
  | 0, _, _ => none
  | n + 1, ct, es => match es with
    | [] => some .nil
    | [c] => (cQ n ct c).map fun m => .cons m .nil
    | _ => none
end
end Mi
end MiRun12S

section MiRun13S
set_option Elab.async false
set_option linter.all false
set_option maxRecDepth 100000
namespace Mi
open PySem L2
structure Snd (n : Nat) : Prop where
  e : ∀ {X : Cx} {G : Gs} {W : WX} {cf : Cf} {ct : Ct} {lv : Nat}, Good X G W cf ct lv → (∀ v M z, cf.repr v M = some z → okS z) → ∀ e m, cE n ct e = some m → PE X e (tE G W cf m)
  q : ∀ {X : Cx} {G : Gs} {W : WX} {cf : Cf} {ct : Ct} {lv : Nat}, Good X G W cf ct lv → (∀ v M z, cf.repr v M = some z → okS z) → ∀ e m, cQ n ct e = some m → PT X e (tT G W cf m) ∧ ∀ o vs p, e = .BoolOp o vs p → PW X e (tT G W cf m)
  es : ∀ {X : Cx} {G : Gs} {W : WX} {cf : Cf} {ct : Ct} {lv : Nat}, Good X G W cf ct lv → (∀ v M z, cf.repr v M = some z → okS z) → ∀ e m, cEs n ct e = some m → PA X e (tEs G W cf m)
  eo : ∀ {X : Cx} {G : Gs} {W : WX} {cf : Cf} {ct : Ct} {lv : Nat}, Good X G W cf ct lv → (∀ v M z, cf.repr v M = some z → okS z) → ∀ e m, cEo n ct e = some m → PO X e (tEo G W cf m)
  p : ∀ {X : Cx} {G : Gs} {W : WX} {cf : Cf} {ct : Ct} {lv : Nat}, Good X G W cf ct lv → (∀ v M z, cf.repr v M = some z → okS z) → ∀ pos ks vs m, cP n ct ks vs = some m → PPs X pos ks vs (trsOf G W cf m)
  l : ∀ {X : Cx} {G : Gs} {W : WX} {cf : Cf} {ct : Ct} {lv : Nat}, Good X G W cf ct lv → (∀ v M z, cf.repr v M = some z → okS z) → ∀ e m, cL n ct e = some m → PE X e (tL G W cf m)
  s : ∀ {X : Cx} {G : Gs} {W : WX} {cf : Cf} {ct : Ct} {lv : Nat}, Good X G W cf ct lv → (∀ v M z, cf.repr v M = some z → okS z) → ∀ tg e m, cS n ct tg e = some m → PI X tg e (tS G W cf m)
  i : ∀ {X : Cx} {G : Gs} {W : WX} {cf : Cf} {ct : Ct} {lv : Nat}, Good X G W cf ct lv → (∀ v M z, cf.repr v M = some z → okS z) → ∀ e m, cI n ct e = some m → PTs X e (tTs G W cf m)
section
variable {X : Cx} {G : Gs} {W : WX} {cf : Cf} {ct : Ct} {lv : Nat}
theorem nDbg_ok {x : Str} (h : nDbg x = true) : (x == ("__debug__" : Str)) = false := by
  unfold nDbg at h
  rwa [Bool.not_eq_true'] at h
theorem nCld_ok {x : Str} (h : nCld x = true) : (x == ("__classdict__" : Str)) = false := by
  unfold nCld at h
  rwa [Bool.not_eq_true'] at h
theorem name_ok (g : Good X G W cf ct lv) {x : Str} {pos : Pos} {m : E} (h : cName ct x = some m) : PE X (.Name x pos) (tE G W cf m) := by
  replace h := gd_some h; obtain ⟨h1, h⟩ := h
  split at h
  · rename_i hv
    replace h := gd_some h; obtain ⟨h2, h⟩ := h
    obtain ⟨i, hi, rfl⟩ := Option.map_eq_some_iff.mp h
    exact e_var g (ixOf_ok hi) hv (nDbg_ok h1) (nCld_ok h2)
  · replace h := gd_some h; obtain ⟨h2, h⟩ := h
    split at h
    · rename_i v hx
      cases h
      exact e_con g h2 hx (nDbg_ok h1)
    · rename_i i k hx
      cases h
      exact e_fnv g hx h2 (nDbg_ok h1)
    · cases h
theorem con_ok (g : Good X G W cf ct lv) {c : Const} {k : Nat} {pos : Pos} {m : E} (h : cCon c = some m) : PE X (.Constant c k pos) (tE G W cf m) := by
  unfold cCon at h
  split at h
  · cases h; exact e_cst g pe_non fun _ _ => .non
  · cases h; exact e_cst g pe_bl fun _ _ => .bl _
  · cases h; exact e_cst g pe_int fun _ _ => .int _
  · rename_i s
    obtain ⟨h1, h2⟩ := gd_some h
    cases h2
    rw [Bool.and_eq_true, decide_eq_true_eq, List.all_eq_true] at h1
    refine e_cst g pe_str fun ι H => ?_
    have e : s = toS s.cps.toList := by
      cases s; simp [toS]
    have := VR.str (K := G.K) (ι := ι) (H := H) s.cps.toList ⟨h1.1, fun c hc => of_decide_eq_true (h1.2 c hc)⟩
    rw [← e] at this
    exact this
  · cases h
theorem tgt_ok (g : Good X G W cf ct lv) {tg : Expr} {t : Tg} (h : cTg ct tg = some t) : PG X tg (gT G t) := by
  unfold cTg at h
  split at h
  · replace h := gd_some h; obtain ⟨h1, h⟩ := h
    obtain ⟨i, hi, rfl⟩ := Option.map_eq_some_iff.mp h
    exact g_one g (ixOf_ok hi) h1
  · obtain ⟨is, hi, rfl⟩ := Option.map_eq_some_iff.mp h
    exact g_many g hi
  · cases h
theorem cP_none {n : Nat} {ks : List (Option Expr)} : cP n ct ks [] = some ([] : List (E × E)) → True := fun _ => trivial
theorem isSome_none {α : Type} {o : Option α} (h : o.isNone = true) : o = none := by cases o <;> first | rfl | cases h
theorem e_cmpO (g : Good X G W cf ct lv) {a b : Expr} {ma mb : E} {o : CmpOp} {pos : Pos} (ha : PE X a (tE G W cf ma)) (hb : PE X b (tE G W cf mb)) (hn : notSet b = true) : PE X (.Compare a [o] [b] pos) (tE G W cf (.cmp (coOf o) ma mb)) := by
  have z := e_cmp (o := coOf o) (pos := pos) g ha hb hn
  rw [← coOf_ok] at z
  exact z
theorem e_chainO (g : Good X G W cf ct lv) {a b c : Expr} {ma mb mc : E} {o p : CmpOp} {pos : Pos} (ha : PE X a (tE G W cf ma)) (hb : PE X b (tE G W cf mb)) (hc : PE X c (tE G W cf mc)) (hn : notSet c = true) : PE X (.Compare a [o, p] [b, c] pos) (tE G W cf (.chain (coOf o) (coOf p) ma mb mc)) := by
  have z := e_chain (o := coOf o) (p := coOf p) (pos := pos) g ha hb hc hn
  rw [← coOf_ok, ← coOf_ok] at z
  exact z
theorem t_cmpO (g : Good X G W cf ct lv) {a b : Expr} {ma mb : E} {o : CmpOp} {pos : Pos} (ha : PE X a (tE G W cf ma)) (hb : PE X b (tE G W cf mb)) (hn : notSet b = true) : PT X (.Compare a [o] [b] pos) (tT G W cf (.cmp (coOf o) ma mb)) := by
  have z := t_cmp (o := coOf o) (pos := pos) g ha hb hn
  rw [← coOf_ok] at z
  exact z
theorem t_chainO (g : Good X G W cf ct lv) {a b c : Expr} {ma mb mc : E} {o p : CmpOp} {pos : Pos} (ha : PE X a (tE G W cf ma)) (hb : PE X b (tE G W cf mb)) (hc : PE X c (tE G W cf mc)) (hn : notSet c = true) : PT X (.Compare a [o, p] [b, c] pos) (tT G W cf (.chain (coOf o) (coOf p) ma mb mc)) := by
  have z := t_chain (o := coOf o) (p := coOf p) (pos := pos) g ha hb hc hn
  rw [← coOf_ok, ← coOf_ok] at z
  exact z
theorem snd_e (n : Nat) (S : Snd n) (g : Good X G W cf ct lv) (ho : ∀ v M z, cf.repr v M = some z → okS z) (e : Expr) (m : E) (h : cE (n + 1) ct e = some m) : PE X e (tE G W cf m) := by
  unfold cE at h
  split at h
  · obtain ⟨l, hl, rfl⟩ := Option.map_eq_some_iff.mp h
    exact e_lst (S.l g ho _ _ hl)
  · rename_i hnl
    clear hnl
    split at h
    · exact name_ok g h
    · exact con_ok g h
    · replace h := Option.bind_eq_some_iff.mp h; obtain ⟨mo, h1, h⟩ := h
      replace h := Option.bind_eq_some_iff.mp h; obtain ⟨ma, h2, h⟩ := h
      replace h := Option.bind_eq_some_iff.mp h; obtain ⟨mb, h3, h⟩ := h
      cases h
      rw [opOf_ok h1]
      exact e_op g (S.e g ho _ _ h2) (S.e g ho _ _ h3)
    · split at h
      · obtain ⟨ma, h1, rfl⟩ := Option.map_eq_some_iff.mp h
        exact e_not g (S.e g ho _ _ h1)
      · obtain ⟨ma, h1, rfl⟩ := Option.map_eq_some_iff.mp h
        exact e_neg g (S.e g ho _ _ h1)
      · cases h
    · split at h
      · exact pe_one (S.e g ho _ _ h)
      · replace h := Option.bind_eq_some_iff.mp h; obtain ⟨ma, h1, h⟩ := h
        replace h := Option.bind_eq_some_iff.mp h; obtain ⟨mb, h2, h⟩ := h
        cases ‹PySem.BoolOp› with
        | And => cases h; exact e_and g (S.e g ho _ _ h1) (S.e g ho _ _ h2)
        | Or => cases h; exact e_or g (S.e g ho _ _ h1) (S.e g ho _ _ h2)
      · cases h
    · split at h
      · split at h
        · rename_i hx
          obtain ⟨p, rfl, t1, t2, t3⟩ := tabName_ok hx
          replace h := Option.bind_eq_some_iff.mp h; obtain ⟨ng, h0, h⟩ := h
          obtain ⟨ma, h1, rfl⟩ := Option.map_eq_some_iff.mp h
          rw [inOf_ok h0]
          exact e_tin g t3 t2 (nDbg_ok t1) (S.e g ho _ _ h1)
        split at h
        · replace h := Option.bind_eq_some_iff.mp h; obtain ⟨ng, h0, h⟩ := h
          replace h := Option.bind_eq_some_iff.mp h; obtain ⟨ma, h1, h⟩ := h
          replace h := Option.bind_eq_some_iff.mp h; obtain ⟨l, h2, h⟩ := h
          replace h := gd_some h; obtain ⟨h3, h⟩ := h
          cases h
          rw [inOf_ok h0]
          exact e_inl g (S.e g ho _ _ h1) (S.l g ho _ _ h2) h3
        · replace h := Option.bind_eq_some_iff.mp h; obtain ⟨ma, h1, h⟩ := h
          replace h := Option.bind_eq_some_iff.mp h; obtain ⟨mb, h2, h⟩ := h
          replace h := gd_some h; obtain ⟨h3, h⟩ := h
          cases h
          exact e_cmpO g (S.e g ho _ _ h1) (S.e g ho _ _ h2) h3
      · replace h := Option.bind_eq_some_iff.mp h; obtain ⟨ma, h1, h⟩ := h
        replace h := Option.bind_eq_some_iff.mp h; obtain ⟨mb, h2, h⟩ := h
        replace h := Option.bind_eq_some_iff.mp h; obtain ⟨mc, h3, h⟩ := h
        replace h := gd_some h; obtain ⟨h4, h⟩ := h
        cases h
        exact e_chainO g (S.e g ho _ _ h1) (S.e g ho _ _ h2) (S.e g ho _ _ h3) h4
      · cases h
    · replace h := Option.bind_eq_some_iff.mp h; obtain ⟨mc, h1, h⟩ := h
      replace h := Option.bind_eq_some_iff.mp h; obtain ⟨ma, h2, h⟩ := h
      replace h := Option.bind_eq_some_iff.mp h; obtain ⟨mb, h3, h⟩ := h
      cases h
      exact e_ite g (S.q g ho _ _ h1).1 (S.e g ho _ _ h2) (S.e g ho _ _ h3)
    · obtain ⟨ms, h1, rfl⟩ := Option.map_eq_some_iff.mp h
      exact e_tup (S.es g ho _ _ h1)
    · replace h := Option.bind_eq_some_iff.mp h; obtain ⟨ms, h1, h⟩ := h
      replace h := gd_some h; obtain ⟨h2, h⟩ := h
      cases h
      obtain ⟨h2, h7⟩ := and2 h2
      obtain ⟨h2, h6⟩ := and2 h2
      obtain ⟨h2, h5⟩ := and2 h2
      obtain ⟨h3, h4⟩ := and2 h2
      exact e_dic g (S.p g ho _ _ _ _ h1) h3 (of_decide_eq_true h4) (fun z => by rw [z] at h5; cases h5) (of_decide_eq_true h6) (of_decide_eq_true h7)
    · split at h
      · replace h := gd_some h; obtain ⟨h1, h⟩ := h
        replace h := Option.bind_eq_some_iff.mp h; obtain ⟨ma, h2, h⟩ := h
        replace h := Option.bind_eq_some_iff.mp h; obtain ⟨ml, h3, h⟩ := h
        replace h := Option.bind_eq_some_iff.mp h; obtain ⟨mh, h4, h⟩ := h
        cases h
        rw [isSome_none h1]
        exact e_sl g (S.e g ho _ _ h2) (S.eo g ho _ _ h3) (S.eo g ho _ _ h4)
      · replace h := gd_some h; obtain ⟨h1, h⟩ := h
        split at h
        · rename_i hx
          obtain ⟨p, rfl, t1, t2, t3⟩ := tabName_ok hx
          obtain ⟨mi, h3, rfl⟩ := Option.map_eq_some_iff.mp h
          exact e_tget g t3 t2 (nDbg_ok t1) (S.e g ho _ _ h3) h1
        split at h
        · replace h := Option.bind_eq_some_iff.mp h; obtain ⟨ma, h2, h⟩ := h
          replace h := Option.bind_eq_some_iff.mp h; obtain ⟨mi, h3, h⟩ := h
          cases h
          exact e_ixl g (S.l g ho _ _ h2) (S.e g ho _ _ h3) h1
        · replace h := Option.bind_eq_some_iff.mp h; obtain ⟨ma, h2, h⟩ := h
          replace h := Option.bind_eq_some_iff.mp h; obtain ⟨mi, h3, h⟩ := h
          cases h
          exact e_ix g (S.e g ho _ _ h2) (S.e g ho _ _ h3) h1
    · rename_i f es kw cp
      replace h := gd_some h; obtain ⟨h0, h⟩ := h
      obtain ⟨hk, hst⟩ := and2 h0
      have hkw : kw = [] := by cases kw <;> first | rfl | cases hk
      subst hkw
      split at h
      · rename_i x p
        split at h
        · rename_i hv
          replace h := gd_some h; obtain ⟨h1, h⟩ := h
          obtain ⟨h1, h5⟩ := and2 h1
          obtain ⟨hd, hc2⟩ := and2 h1
          obtain ⟨i, hi, h⟩ := Option.bind_eq_some_iff.mp h
          obtain ⟨ms, h2, rfl⟩ := Option.map_eq_some_iff.mp h
          cases es with
          | nil => cases h5
          | cons a es => exact e_callv g (ixOf_ok hi) hv (nDbg_ok hd) (nCld_ok hc2) (S.es g ho _ _ h2) hst
        replace h := gd_some h; obtain ⟨h1, h⟩ := h
        obtain ⟨hd, hg⟩ := and2 h1
        split at h
        · rename_i i k hx
          replace h := Option.bind_eq_some_iff.mp h; obtain ⟨ms, h2, h⟩ := h
          replace h := gd_some h; obtain ⟨h3, h⟩ := h
          cases h
          have hl := of_decide_eq_true h3
          cases es with
          | nil =>
            cases n with
            | zero => cases h2
            | succ n =>
              unfold cEs at h2
              cases h2
              subst hl
              exact e_call0 g hx hg (nDbg_ok hd)
          | cons a es => exact e_call g hx hg (S.es g ho _ _ h2) hl hst (nDbg_ok hd)
        · rename_i c hx
          split at h
          · cases h
            exact e_newx g hx hg (nDbg_ok hd)
          · cases h
        · rename_i hx
          split at h
          · rename_i a
            have hna : notStar a = true := by simpa using hst
            split at h
            · replace h := Option.bind_eq_some_iff.mp h; obtain ⟨b, h2, h⟩ := h
              replace h := Option.bind_eq_some_iff.mp h; obtain ⟨l, h3, h⟩ := h
              cases h
              have ex := bilOf_ok h2
              subst ex
              exact e_bil g (S.l g ho _ _ h3) hna hg hx
            · replace h := Option.bind_eq_some_iff.mp h; obtain ⟨b, h2, h⟩ := h
              replace h := Option.bind_eq_some_iff.mp h; obtain ⟨ma, h3, h⟩ := h
              cases h
              have ex := biOf_ok h2
              subst ex
              exact e_bi g ho (S.e g ho _ _ h3) hna hg hx
          · rename_i a b
            have hna : notStar a = true := (and2 (by simpa only [List.all_cons] using hst)).1
            split at h
            · rename_i ex
              split at h
              · rename_i c p2
                replace h := gd_some h; obtain ⟨h4, h⟩ := h
                replace h := Option.bind_eq_some_iff.mp h; obtain ⟨cl, h5, h⟩ := h
                replace h := Option.bind_eq_some_iff.mp h; obtain ⟨ma, h6, h⟩ := h
                cases h
                subst ex
                obtain ⟨ec, hno⟩ := clOf_ok h5
                subst ec
                obtain ⟨hb1, hb2⟩ := bltB_ok h4
                exact e_isi g (S.e g ho _ _ h6) hna hno hg hx hb1 hb2
              · replace h := Option.bind_eq_some_iff.mp h; obtain ⟨cl, h5, h⟩ := h
                obtain ⟨ma, h6, rfl⟩ := Option.map_eq_some_iff.mp h
                subst ex
                exact e_isis g (S.e g ho _ _ h6) hna h5 hg hx
              · cases h
            · replace h := Option.bind_eq_some_iff.mp h; obtain ⟨f, h5, h⟩ := h
              replace h := Option.bind_eq_some_iff.mp h; obtain ⟨ma, h6, h⟩ := h
              replace h := Option.bind_eq_some_iff.mp h; obtain ⟨mb, h7, h⟩ := h
              cases h
              have ex := bnOf_ok h5
              subst ex
              have hnb : notStar b = true := by
                have := (and2 (by simpa only [List.all_cons] using hst)).2
                simpa using this
              exact e_bin g (S.e g ho _ _ h6) (S.e g ho _ _ h7) hna hnb hg hx
          · cases h
        · cases h
      · rename_i o mm ap
        replace h := gd_some h; obtain ⟨h1, h⟩ := h
        obtain ⟨hc, hl⟩ := and2 h1
        split at h
        · rename_i md hmd
          replace h := Option.bind_eq_some_iff.mp h; obtain ⟨mo, h2, h⟩ := h
          replace h := Option.bind_eq_some_iff.mp h; obtain ⟨ms, h3, h⟩ := h
          replace h := gd_some h; obtain ⟨h4, h⟩ := h
          cases h
          have ex := mdOf_ok hmd
          subst ex
          refine e_mtd g (S.e g ho _ _ h2) (S.es g ho _ _ h3) (fun z => ?_) hst (of_decide_eq_true h4) hc hl
          subst z
          cases n with
          | zero => cases h3
          | succ n =>
            unfold cEs at h3
            cases h3
            rfl
        · split at h
          · replace h := Option.bind_eq_some_iff.mp h; obtain ⟨b, h2, h⟩ := h
            replace h := Option.bind_eq_some_iff.mp h; obtain ⟨mo, h3, h⟩ := h
            cases h
            have ex := mtOf_ok h2
            subst ex
            exact e_mt g (S.e g ho _ _ h3) hc hl
          · rename_i a
            replace h := gd_some h; obtain ⟨h2, h⟩ := h
            replace h := Option.bind_eq_some_iff.mp h; obtain ⟨mo, h3, h⟩ := h
            have ex := of_decide_eq_true h2
            subst ex
            split at h
            · replace h := Option.bind_eq_some_iff.mp h; obtain ⟨l, h4, h⟩ := h
              cases h
              exact e_join g (S.e g ho _ _ h3) (S.l g ho _ _ h4) hc hl (by simpa using hst)
            · replace h := Option.bind_eq_some_iff.mp h; obtain ⟨ma, h4, h⟩ := h
              cases h
              exact e_joinv g (S.e g ho _ _ h3) (S.e g ho _ _ h4) hc hl (by simpa using hst)
          · cases h
      · cases h
    · cases h
end
end Mi
end MiRun13S

section MiRun14S
set_option Elab.async false
set_option linter.all false
set_option maxRecDepth 100000
namespace Mi
open PySem L2
section
variable {X : Cx} {G : Gs} {W : WX} {cf : Cf} {ct : Ct} {lv : Nat}
theorem snd_q (n : Nat) (S : Snd n) (g : Good X G W cf ct lv) (ho : ∀ v M z, cf.repr v M = some z → okS z) (e : Expr) (m : E) (h : cQ (n + 1) ct e = some m) : PT X e (tT G W cf m) ∧ ∀ o vs p, e = .BoolOp o vs p → PW X e (tT G W cf m) := by
  unfold cQ at h
  split at h
  · replace h := Option.map_eq_some_iff.mp h; obtain ⟨ma, h1, rfl⟩ := h
    exact ⟨t_not g (S.q g ho _ _ h1).1, fun o vs p z => by cases z⟩
  · rename_i o vs p
    have key : PW X (.BoolOp o vs p) (tT G W cf m) := by
      split at h
      · have q := (S.q g ho _ _ h).1
        cases ‹PySem.BoolOp› with
        | And => exact pw_and1 q
        | Or => exact pw_or1 q
      · replace h := Option.bind_eq_some_iff.mp h; obtain ⟨ma, h1, h⟩ := h
        replace h := Option.bind_eq_some_iff.mp h; obtain ⟨mb, h2, h⟩ := h
        cases ‹PySem.BoolOp› with
        | And => cases h; exact t_and g (S.q g ho _ _ h1).1 ((S.q g ho _ _ h2).2 _ _ _ rfl)
        | Or => cases h; exact t_or g (S.q g ho _ _ h1).1 ((S.q g ho _ _ h2).2 _ _ _ rfl)
      · cases h
    exact ⟨key.pt, fun _ _ _ _ => key⟩
  · refine ⟨?_, fun o vs p z => by cases z⟩
    split at h
    · split at h
      · rename_i hx
        obtain ⟨p, rfl, t1, t2, t3⟩ := tabName_ok hx
        replace h := Option.bind_eq_some_iff.mp h; obtain ⟨ng, h0, h⟩ := h
        obtain ⟨ma, h1, rfl⟩ := Option.map_eq_some_iff.mp h
        rw [inOf_ok h0]
        exact t_tin g t3 t2 (nDbg_ok t1) (S.e g ho _ _ h1)
      split at h
      · replace h := Option.bind_eq_some_iff.mp h; obtain ⟨ng, h0, h⟩ := h
        replace h := Option.bind_eq_some_iff.mp h; obtain ⟨ma, h1, h⟩ := h
        replace h := Option.bind_eq_some_iff.mp h; obtain ⟨l, h2, h⟩ := h
        replace h := gd_some h; obtain ⟨h3, h⟩ := h
        cases h
        rw [inOf_ok h0]
        exact t_inl g (S.e g ho _ _ h1) (S.l g ho _ _ h2) h3
      · replace h := Option.bind_eq_some_iff.mp h; obtain ⟨ma, h1, h⟩ := h
        replace h := Option.bind_eq_some_iff.mp h; obtain ⟨mb, h2, h⟩ := h
        replace h := gd_some h; obtain ⟨h3, h⟩ := h
        cases h
        exact t_cmpO g (S.e g ho _ _ h1) (S.e g ho _ _ h2) h3
    · replace h := Option.bind_eq_some_iff.mp h; obtain ⟨ma, h1, h⟩ := h
      replace h := Option.bind_eq_some_iff.mp h; obtain ⟨mb, h2, h⟩ := h
      replace h := Option.bind_eq_some_iff.mp h; obtain ⟨mc, h3, h⟩ := h
      replace h := gd_some h; obtain ⟨h4, h⟩ := h
      cases h
      exact t_chainO g (S.e g ho _ _ h1) (S.e g ho _ _ h2) (S.e g ho _ _ h3) h4
    · cases h
  · replace h := gd_some h; obtain ⟨h1, h⟩ := h
    exact ⟨pt_of g (S.e g ho _ _ h) h1, fun o vs p z => by subst z; cases h1⟩
theorem snd_es (n : Nat) (S : Snd n) (g : Good X G W cf ct lv) (ho : ∀ v M z, cf.repr v M = some z → okS z) (e : List Expr) (m : Es) (h : cEs (n + 1) ct e = some m) : PA X e (tEs G W cf m) := by
  unfold cEs at h
  split at h
  · cases h; exact es_nil
  · replace h := gd_some h; obtain ⟨h1, h⟩ := h
    replace h := Option.bind_eq_some_iff.mp h; obtain ⟨ma, h2, h⟩ := h
    replace h := Option.bind_eq_some_iff.mp h; obtain ⟨mb, h3, h⟩ := h
    cases h
    exact es_cons (S.e g ho _ _ h2) (S.es g ho _ _ h3) h1
theorem snd_eo (n : Nat) (S : Snd n) (g : Good X G W cf ct lv) (ho : ∀ v M z, cf.repr v M = some z → okS z) (e : Option Expr) (m : Eo) (h : cEo (n + 1) ct e = some m) : PO X e (tEo G W cf m) := by
  unfold cEo at h
  split at h
  · cases h; exact o_none
  · replace h := Option.map_eq_some_iff.mp h; obtain ⟨ma, h1, rfl⟩ := h
    exact o_some (S.e g ho _ _ h1)
theorem snd_p (n : Nat) (S : Snd n) (g : Good X G W cf ct lv) (ho : ∀ v M z, cf.repr v M = some z → okS z) (pos : Pos) (ks : List (Option Expr)) (vs : List Expr) (m : List (E × E)) (h : cP (n + 1) ct ks vs = some m) : PPs X pos ks vs (trsOf G W cf m) := by
  unfold cP at h
  split at h
  · cases h; exact pps_nil
  · replace h := Option.bind_eq_some_iff.mp h; obtain ⟨mk, h1, h⟩ := h
    replace h := Option.bind_eq_some_iff.mp h; obtain ⟨mv, h2, h⟩ := h
    replace h := Option.bind_eq_some_iff.mp h; obtain ⟨mr, h3, h⟩ := h
    cases h
    exact pps_cons (S.e g ho _ _ h1) (S.e g ho _ _ h2) (S.p g ho _ _ _ _ h3)
  · cases h
theorem notSet_fold {e : Expr} {env : Env} (h : notSet e = true) : ∀ x, foldedSetIterable e env x = pure x := by
  intro x
  cases e <;> first | rfl | cases h
/-- what is known of a comprehension that is read -/
structure LcOk (X : Cx) (G : Gs) (W : WX) (cf : Cf) (ct : Ct) (elt tg iter : Expr) (ifs : List Expr) (scope : Scope) (l : L) (src : Src) (t : Tg) (cs : Es) (e : E) : Prop where
  l : l = .comp ((ownOf ct scope).map (·.2)) t src cs e
  it : PI X tg iter (tS G W cf src)
  ok : blkC ct.N ct.sc scope (ownOf ct scope) = true
  sl : t.slots.all (fun i => ((ownOf ct scope).map (·.2)).contains i) = true
  pg : ∀ (s : Shared) (H : Hp) (C : Addr) (cl : List (Str × Addr)) (fp : List Addr), PG (X.blk s H scope (compEnvC scope cl C X.env) fp) tg (gT G t)
  pt : ∀ (s : Shared) (H : Hp) (C : Addr) (cl : List (Str × Addr)) (fp : List Addr), PTs (X.blk s H scope (compEnvC scope cl C X.env) fp) ifs (tTs G W0 cf cs)
  pe : ∀ (s : Shared) (H : Hp) (C : Addr) (cl : List (Str × Addr)) (fp : List Addr), PE (X.blk s H scope (compEnvC scope cl C X.env) fp) elt (tE G W0 cf e)
  fd : ∀ x, foldedSetIterable iter X.env x = pure x
theorem lc_get (n : Nat) (S : Snd n) (g : Good X G W cf ct lv) (ho : ∀ v M z, cf.repr v M = some z → okS z) {elt tg iter : Expr} {ifs : List Expr} {scope : Scope} {a : Int} {m : L} {pos : Pos} (h : cL (n + 1) ct (.ListComp elt [⟨tg, iter, ifs, a⟩] scope pos) = some m) :
    a = 0 ∧ ∃ src t cs e, LcOk X G W cf ct elt tg iter ifs scope m src t cs e := by
  unfold cL at h
  replace h := Option.bind_eq_some_iff.mp h; obtain ⟨src, h1, h⟩ := h
  replace h := Option.bind_eq_some_iff.mp h; obtain ⟨t, h2, h⟩ := h
  replace h := Option.bind_eq_some_iff.mp h; obtain ⟨cs, h3, h⟩ := h
  replace h := Option.bind_eq_some_iff.mp h; obtain ⟨e, h4, h⟩ := h
  replace h := gd_some h; obtain ⟨h5, h⟩ := h
  cases h
  obtain ⟨h5, h9⟩ := and2 h5
  obtain ⟨h5, h8⟩ := and2 h5
  obtain ⟨h6, h7⟩ := and2 h5
  refine ⟨of_decide_eq_true h6, src, t, cs, e, rfl, S.s g ho _ _ _ h1, h8, h9, fun s H C cl fp => ?_, fun s H C cl fp => ?_, fun s H C cl fp => ?_, notSet_fold h7⟩
  · exact tgt_ok (g.blk s H scope cl C fp) h2
  · exact S.i (g.blk s H scope cl C fp) ho _ _ h3
  · exact S.e (g.blk s H scope cl C fp) ho _ _ h4
theorem snd_l (n : Nat) (S : Snd n) (g : Good X G W cf ct lv) (ho : ∀ v M z, cf.repr v M = some z → okS z) (e : Expr) (m : L) (h : cL (n + 1) ct e = some m) : PE X e (tL G W cf m) := by
  have h0 := h
  unfold cL at h
  split at h
  · replace h := Option.map_eq_some_iff.mp h; obtain ⟨ms, h1, rfl⟩ := h
    exact l_disp (S.es g ho _ _ h1)
  · split at h
    · replace h := gd_some h; obtain ⟨h1, h⟩ := h
      obtain ⟨h1, h3⟩ := and2 h1
      obtain ⟨h4, h5⟩ := and2 h1
      have ex := of_decide_eq_true h4
      subst ex
      obtain ⟨b1, b2⟩ := bltB_ok h5
      split at h
      · split at h
        · rename_i hy
          subst hy
          replace h := gd_some h; obtain ⟨g1, h⟩ := h
          obtain ⟨mb, h6, h⟩ := Option.bind_eq_some_iff.mp h
          obtain ⟨mc, h7, rfl⟩ := Option.map_eq_some_iff.mp h
          obtain ⟨g1, g4⟩ := and2 g1
          obtain ⟨g2, g3⟩ := and2 g1
          obtain ⟨d1, d2⟩ := bltB_ok g2
          exact l_rng2 g (S.e g ho _ _ h6) (S.e g ho _ _ h7) g3 g4 d1 d2 b1 b2
        · replace h := Option.map_eq_some_iff.mp h; obtain ⟨ma, h2, rfl⟩ := h
          exact l_list g (S.e g ho _ _ h2) h3 b1 b2
      · replace h := Option.map_eq_some_iff.mp h; obtain ⟨ma, h2, rfl⟩ := h
        exact l_list g (S.e g ho _ _ h2) h3 b1 b2
    · cases h
  · split at h
    · obtain ⟨rfl, src, t, cs, e, k⟩ := lc_get n S g ho h0
      rw [k.l]
      exact l_comp g k.it k.ok k.sl k.pg k.pt k.pe k.fd
    · cases h
  · cases h
theorem snd_s (n : Nat) (S : Snd n) (g : Good X G W cf ct lv) (ho : ∀ v M z, cf.repr v M = some z → okS z) (tg e : Expr) (m : Src) (h : cS (n + 1) ct tg e = some m) : PI X tg e (tS G W cf m) := by
  unfold cS at h
  split at h
  · replace h := Option.map_eq_some_iff.mp h; obtain ⟨ms, h1, rfl⟩ := h
    exact s_fresh g (S.l g ho _ _ h1)
  · rename_i hnl
    clear hnl
    split at h
    · split at h
      · split at h
        · rename_i hx
          subst hx
          replace h := gd_some h; obtain ⟨h1, h⟩ := h
          replace h := Option.map_eq_some_iff.mp h; obtain ⟨ma, h2, rfl⟩ := h
          obtain ⟨h3, h4⟩ := and2 h1
          obtain ⟨b1, b2⟩ := bltB_ok h3
          exact s_rng g (S.e g ho _ _ h2) h4 b1 b2
        · replace h := Option.map_eq_some_iff.mp h; obtain ⟨ma, h2, rfl⟩ := h
          exact s_seq g (S.e g ho _ _ h2)
      · split at h
        · rename_i hx
          subst hx
          replace h := gd_some h; obtain ⟨h1, h⟩ := h
          obtain ⟨ma, h2, h⟩ := Option.bind_eq_some_iff.mp h
          obtain ⟨mb, h3, rfl⟩ := Option.map_eq_some_iff.mp h
          obtain ⟨h1, h5⟩ := and2 h1
          obtain ⟨h1, h4⟩ := and2 h1
          obtain ⟨b1, b2⟩ := bltB_ok h1
          exact s_rng2 g (S.e g ho _ _ h2) (S.e g ho _ _ h3) h4 h5 b1 b2
        · split at h
          · rename_i hx
            subst hx
            replace h := gd_some h; obtain ⟨h1, h⟩ := h
            obtain ⟨ma, h2, h⟩ := Option.bind_eq_some_iff.mp h
            obtain ⟨mb, h3, rfl⟩ := Option.map_eq_some_iff.mp h
            obtain ⟨h1, h6⟩ := and2 h1
            obtain ⟨h1, h5⟩ := and2 h1
            obtain ⟨h1, h4⟩ := and2 h1
            obtain ⟨b1, b2⟩ := bltB_ok h1
            cases tg with
            | Tuple elts kk tpos => exact s_zip g (S.e g ho _ _ h2) (S.e g ho _ _ h3) h4 h5 b1 b2
            | _ => cases h6
          · replace h := Option.map_eq_some_iff.mp h; obtain ⟨ma, h2, rfl⟩ := h
            exact s_seq g (S.e g ho _ _ h2)
      · replace h := Option.map_eq_some_iff.mp h; obtain ⟨ma, h2, rfl⟩ := h
        exact s_seq g (S.e g ho _ _ h2)
    · replace h := Option.map_eq_some_iff.mp h; obtain ⟨ma, h2, rfl⟩ := h
      exact s_seq g (S.e g ho _ _ h2)
theorem snd_i (n : Nat) (S : Snd n) (g : Good X G W cf ct lv) (ho : ∀ v M z, cf.repr v M = some z → okS z) (e : List Expr) (m : Es) (h : cI (n + 1) ct e = some m) : PTs X e (tTs G W cf m) := by
  unfold cI at h
  split at h
  · cases h; exact ts_nil g
  · replace h := Option.map_eq_some_iff.mp h; obtain ⟨ma, h2, rfl⟩ := h
    exact ts_one g (S.q g ho _ _ h2).1
  · cases h
end
theorem snd : ∀ n, Snd n
  | 0 => by
    constructor
    · intro X G W cf ct lv g ho e m h; unfold cE at h; cases h
    · intro X G W cf ct lv g ho e m h; unfold cQ at h; cases h
    · intro X G W cf ct lv g ho e m h; unfold cEs at h; cases h
    · intro X G W cf ct lv g ho e m h; unfold cEo at h; cases h
    · intro X G W cf ct lv g ho pos ks vs m h; unfold cP at h; cases h
    · intro X G W cf ct lv g ho e m h; unfold cL at h; cases h
    · intro X G W cf ct lv g ho tg e m h; unfold cS at h; cases h
    · intro X G W cf ct lv g ho e m h; unfold cI at h; cases h
  | n + 1 => ⟨fun g ho => snd_e n (snd n) g ho, fun g ho => snd_q n (snd n) g ho, fun g ho => snd_es n (snd n) g ho, fun g ho => snd_eo n (snd n) g ho, fun g ho => snd_p n (snd n) g ho, fun g ho => snd_l n (snd n) g ho, fun g ho => snd_s n (snd n) g ho, fun g ho => snd_i n (snd n) g ho⟩
end Mi
end MiRun14S

section MiRun15S
set_option Elab.async false
set_option linter.all false
set_option maxRecDepth 100000
namespace Mi
open PySem L2
/-- what a comprehension's name must be to be stored at its end -/
def lcNameB (ct : Ct) (scope : Scope) (y : Str) (l1 l2 : Nat) : Bool := (match ct.sc.kind with | .function => true | _ => false) && isLocal ct y && (l1 == l2) && !(scope.names.any fun (n, k) => n == y && (k == .local || k == .cell))
mutual
def kE : Nat → Expr → Option E
  | 0, _ => none
  | n + 1, e => match e with
    | .Constant c _ _ => cCon c
    | .Tuple es _ _ => (kEs n es).map .tup
    | _ => none
def kEs : Nat → List Expr → Option Es
  | 0, _ => none
  | n + 1, es => match es with
    | [] => some .nil
    | e :: r => gd (notStar e) ((kE n e).bind fun m => (kEs n r).bind fun ms => some (.cons m ms))
end
/-- what an except suite may do: one row -/
def kSt (n : Nat) (ct : Ct) (s : Stmt) : Option S := match s with
  | .Assign [.Name x _] e _ => gd (stoB ct x && notLc e) ((ixOf ct.N x).bind fun i => (kE n e).map (.set i))
  | .Return (some e) _ => (kE n e).map .ret
  | _ => none
def cHs (n : Nat) (ct : Ct) : List ExceptHandler → Option Hs
  | [] => some .nil
  | h :: r => match h with
    | .ExceptHandler (some (.Name x _)) none [s] _ => match ct.gl x with
      | some (.exc c) => gd (nDbg x && glB ct.sc x) ((kSt n ct s).bind fun m => (cHs n ct r).map fun hs => .cons c (.cons m .nil) hs)
      | _ => none
    | _ => none
mutual
def cSt : Nat → Ct → Stmt → Option S
  | 0, _, _ => none
  | n + 1, ct, s => match s with
    | .Assign ts e _ => match ts with
      | [.Name x p] => match e with
        | .ListComp elt gs scope q => match gs with
          | [⟨tg, iter, ifs, a⟩] => gd (lcNameB ct scope x p.line q.line) ((ixOf ct.N x).bind fun i => (cL (n + 1) ct (.ListComp elt [⟨tg, iter, ifs, a⟩] scope q)).map fun l => .set i (.lst l))
          | _ => none
        | _ => gd (stoB ct x && notLc e) ((ixOf ct.N x).bind fun i => (cE n ct e).map (.set i))
      | [.Tuple es k p] => match e with
        | .Tuple vs k2 p2 => match es, vs with
          | [.Name x px, .Name y py], [a, b] => gd (parB ct x y px py a b) ((ixOf ct.N x).bind fun i => (ixOf ct.N y).bind fun j => (cE n ct a).bind fun ma => (cE n ct b).map fun mb => .par i j ma mb)
          | [.Name x px, .Name y py, .Name z pz], [a, b, c] => gd (parB3 ct x y z px py pz a b c) ((ixOf ct.N x).bind fun i => (ixOf ct.N y).bind fun j => (ixOf ct.N z).bind fun k => (cE n ct a).bind fun ma => (cE n ct b).bind fun mb => (cE n ct c).map fun mc => .par3 i j k ma mb mc)
          | _, _ => none
        | _ => gd (notLc e && notTup e) ((namesAt ct es).bind fun is => (cE n ct e).map (.unp is))
      | [.Subscript o i p] => gd (notLc e && notTup e && notSlice i) ((cE n ct o).bind fun mo => (cE n ct i).bind fun mi => (cE n ct e).map (.six mo mi))
      | _ => none
    | .Expr e _ => match e with
      | .Constant (.str _) _ _ => some .pass
      | _ => gd (notLc e) ((cE n ct e).map .expr)
    | .Return o _ => match o with
      | some e => (cE n ct e).map .ret
      | none => some .retN
    | .If c a b _ => (cQ n ct c).bind fun mc => (cSs n ct a).bind fun ma => (cSs n ct b).map (.ite mc ma)
    | .For tg iter body orelse _ => gd (orelse.isEmpty && notSet iter) ((cS n ct tg iter).bind fun src => (cTg ct tg).bind fun t => (cSs n ct body).map (.loop t src))
    | .While c body orelse _ => gd orelse.isEmpty ((cQ n ct c).bind fun mc => (cSs n ct body).map (.whl mc))
    | .Break _ => some .brk
    | .Continue _ => some .cnt
    | .Pass _ => some .pass
    | .Raise o none _ => match o with
      | some (.Call (.Name x _) [] [] _) => match ct.gl x with
        | some (.exc c) => gd (nDbg x && glB ct.sc x) (some (.rais c))
        | _ => none
      | _ => none
    | .Try body hs orelse fin _ => gd (orelse.isEmpty && fin.isEmpty && !hs.isEmpty) ((cSs n ct body).bind fun mb => (cHs n ct hs).map (.tri mb))
    | _ => none
def cSs : Nat → Ct → List Stmt → Option Ss
  | 0, _, _ => none
  | n + 1, ct, ss => match ss with
    | [] => some .nil
    | s :: r => (cSt n ct s).bind fun m => (cSs n ct r).map (.cons m)
end
section
variable {X : Cx} {G : Gs} {W : WX} {cf : Cf} {ct : Ct} {lv : Nat}
theorem st_setLc (g : Good X G W cf ct lv) {i : Nat} {y : Str} {py : Pos} {elt tg iter : Expr} {ifs : List Expr} {scope : Scope} {pos spos : Pos} {l : L} {src : Src} {t : Tg} {cs : Es} {e : E} (hN : ct.N[i]? = some y) (hb : lcNameB ct scope y py.line pos.line = true) (k : LcOk X G W cf ct elt tg iter ifs scope l src t cs e) :
    PS X (.Assign [.Name y py] (.ListComp elt [⟨tg, iter, ifs, 0⟩] scope pos) spos) (tSt G W cf (.set i (.lst l))) := by
  unfold lcNameB at hb
  obtain ⟨hb, h4⟩ := and2 hb
  obtain ⟨hb, h3⟩ := and2 hb
  obtain ⟨h1, h2⟩ := and2 hb
  have hk : X.env.scope.kind = .function := by
    rw [g.sc]
    split at h1
    · assumption
    · cases h1
  have hy : X.env.scope.names.lookup y = some .local := by rw [g.sc]; exact isLocal_ok h2
  have hs : swapsWith (.ListComp elt [⟨tg, iter, ifs, 0⟩] scope pos) (some (.Name y py)) spos.line X.env = pure true := sw_true hk hy h3 (by rwa [Bool.not_eq_true'] at h4)
  refine (ps_setLc g.calm g.nd (by rw [g.N]; exact hN) hy hs k.it (blkOk_by (by rw [g.N, g.sc]; exact k.ok)) k.pg k.pt k.pe k.fd).imp fun D σ H q => ?_
  obtain ⟨ι, τ, M, hs, hr, q⟩ := q
  unfold ex at q
  refine lc_read (tg := tg) (iter := iter) g k.sl ⟨ι, τ, M, hs, hr, ?_⟩
  have q2 : Post G W σ ι H (RV G) (fun x H1 => gName i x σ H1 D.nx) (ev cf (.lst l) τ M) := PostO.on q hs fun v M1 ι1 H1 w _ l1 hr1 r1 q1 => q1 ι1 H1 _ Le.refl hr1 ((hs.mono l1).set r1 i)
  unfold ev at q2
  rw [k.l] at q2
  exact Post.lay q2
theorem nil_of {α : Type} {l : List α} (h : l.isEmpty = true) : l = [] := by cases l <;> first | rfl | cases h
mutual
theorem k_e : ∀ (n : Nat) {X : Cx} {e : Expr} {m : E}, kE n e = some m → PE X e (tE G W cf m)
  | 0, X, e, m, h => by unfold kE at h; cases h
  | n + 1, X, e, m, h => by
    unfold kE at h
    split at h
    · unfold cCon at h
      split at h
      · cases h; exact k_cst pe_non fun _ _ => .non
      · cases h; exact k_cst pe_bl fun _ _ => .bl _
      · cases h; exact k_cst pe_int fun _ _ => .int _
      · rename_i s
        obtain ⟨h1, h2⟩ := gd_some h
        cases h2
        rw [Bool.and_eq_true, decide_eq_true_eq, List.all_eq_true] at h1
        refine k_cst pe_str fun ι H => ?_
        have e : s = toS s.cps.toList := by
          cases s; simp [toS]
        have := VR.str (K := G.K) (ι := ι) (H := H) s.cps.toList ⟨h1.1, fun c hc => of_decide_eq_true (h1.2 c hc)⟩
        rw [← e] at this
        exact this
      · cases h
    · obtain ⟨ms, h1, rfl⟩ := Option.map_eq_some_iff.mp h
      exact e_tup (k_es n h1)
    · cases h
theorem k_es : ∀ (n : Nat) {X : Cx} {es : List Expr} {m : Es}, kEs n es = some m → PA X es (tEs G W cf m)
  | 0, X, e, m, h => by unfold kEs at h; cases h
  | n + 1, X, e, m, h => by
    unfold kEs at h
    split at h
    · cases h; exact es_nil
    · replace h := gd_some h; obtain ⟨h1, h⟩ := h
      replace h := Option.bind_eq_some_iff.mp h; obtain ⟨ma, h2, h⟩ := h
      replace h := Option.bind_eq_some_iff.mp h; obtain ⟨mb, h3, h⟩ := h
      cases h
      exact es_cons (k_e n h2) (k_es n h3) h1
end
theorem k_st (g : Good X G W cf ct lv) {n : Nat} {s : Stmt} {m : S} (h : kSt n ct s = some m) (a : Addr) (pn : List (Addr × PySem.Obj)) : PS (X.suite a pn) s (tSt G W0 cf m) := by
  unfold kSt at h
  split at h
  · replace h := gd_some h; obtain ⟨h1, h⟩ := h
    obtain ⟨h2, h3⟩ := and2 h1
    replace h := Option.bind_eq_some_iff.mp h; obtain ⟨i, h4, h⟩ := h
    obtain ⟨me, h5, rfl⟩ := Option.map_eq_some_iff.mp h
    have st := g.sto h2
    exact k_set (X := X.suite a pn) g.nd (by rw [show (X.suite a pn).N = X.N from rfl, g.N]; exact ixOf_ok h4) st.1 st.2 (k_e n h5) h3
  · obtain ⟨me, h5, rfl⟩ := Option.map_eq_some_iff.mp h
    exact st_ret (k_e n h5)
  · cases h
theorem c_hs (g : Good X G W cf ct lv) {n : Nat} : ∀ {hds : List ExceptHandler} {mh : Hs}, cHs n ct hds = some mh → HsOk X G cf hds mh
  | [], mh, h => by
    unfold cHs at h
    cases h
    exact .nil
  | h0 :: r, mh, h => by
    unfold cHs at h
    split at h
    · split at h
      · rename_i c hx
        replace h := gd_some h; obtain ⟨h1, h⟩ := h
        obtain ⟨h2, h3⟩ := and2 h1
        replace h := Option.bind_eq_some_iff.mp h; obtain ⟨m, h4, h⟩ := h
        obtain ⟨hs, h5, rfl⟩ := Option.map_eq_some_iff.mp h
        exact .cons ⟨glB_ok g.sc h3, nDbg_ok h2, .inl (g.exc _ c hx).mg⟩ (fun a pn => st_cons (k_st g h4 a pn) st_nil) (c_hs g h5)
      · cases h
    · cases h
structure SndS (n : Nat) : Prop where
  s : ∀ {X : Cx} {G : Gs} {W : WX} {cf : Cf} {ct : Ct} {lv : Nat}, Good X G W cf ct lv → (∀ v M z, cf.repr v M = some z → okS z) → PassesOwn (model X.prog X.w) X.A X.env X.xe → Stk X → ∀ e m, cSt n ct e = some m → PS X e (tSt G W cf m)
  ss : ∀ {X : Cx} {G : Gs} {W : WX} {cf : Cf} {ct : Ct} {lv : Nat}, Good X G W cf ct lv → (∀ v M z, cf.repr v M = some z → okS z) → PassesOwn (model X.prog X.w) X.A X.env X.xe → Stk X → ∀ e m, cSs n ct e = some m → PSs X e (tSs G W cf m)
theorem snd_st (n : Nat) (T : SndS n) (g : Good X G W cf ct lv) (ho : ∀ v M z, cf.repr v M = some z → okS z) (hp : PassesOwn (model X.prog X.w) X.A X.env X.xe) (hk : Stk X) (e : Stmt) (m : S) (h : cSt (n + 1) ct e = some m) : PS X e (tSt G W cf m) := by
  have S := snd n
  unfold cSt at h
  split at h
  · split at h
    · split at h
      · split at h
        · replace h := gd_some h; obtain ⟨h1, h⟩ := h
          replace h := Option.bind_eq_some_iff.mp h; obtain ⟨i, h2, h⟩ := h
          replace h := Option.map_eq_some_iff.mp h; obtain ⟨l, h3, rfl⟩ := h
          obtain ⟨rfl, src, t, cs, e, k⟩ := lc_get n S g ho h3
          exact st_setLc g (ixOf_ok h2) h1 k
        · cases h
      · replace h := gd_some h; obtain ⟨h1, h⟩ := h
        replace h := Option.bind_eq_some_iff.mp h; obtain ⟨i, h2, h⟩ := h
        replace h := Option.map_eq_some_iff.mp h; obtain ⟨l, h3, rfl⟩ := h
        obtain ⟨h4, h5⟩ := and2 h1
        exact st_asg g (ixOf_ok h2) h4 (S.e g ho _ _ h3) h5
    · split at h
      · split at h
        · replace h := gd_some h; obtain ⟨h1, h⟩ := h
          replace h := Option.bind_eq_some_iff.mp h; obtain ⟨i, h2, h⟩ := h
          replace h := Option.bind_eq_some_iff.mp h; obtain ⟨j, h3, h⟩ := h
          replace h := Option.bind_eq_some_iff.mp h; obtain ⟨ma, h4, h⟩ := h
          replace h := Option.map_eq_some_iff.mp h; obtain ⟨mb, h5, rfl⟩ := h
          exact st_par g (ixOf_ok h2) (ixOf_ok h3) (S.e g ho _ _ h4) (S.e g ho _ _ h5) h1
        · replace h := gd_some h; obtain ⟨h1, h⟩ := h
          replace h := Option.bind_eq_some_iff.mp h; obtain ⟨i, h2, h⟩ := h
          replace h := Option.bind_eq_some_iff.mp h; obtain ⟨j, h3, h⟩ := h
          replace h := Option.bind_eq_some_iff.mp h; obtain ⟨k, h4, h⟩ := h
          replace h := Option.bind_eq_some_iff.mp h; obtain ⟨ma, h5, h⟩ := h
          replace h := Option.bind_eq_some_iff.mp h; obtain ⟨mb, h6, h⟩ := h
          replace h := Option.map_eq_some_iff.mp h; obtain ⟨mc, h7, rfl⟩ := h
          exact st_par3 g (ixOf_ok h2) (ixOf_ok h3) (ixOf_ok h4) (S.e g ho _ _ h5) (S.e g ho _ _ h6) (S.e g ho _ _ h7) h1
        · cases h
      · replace h := gd_some h; obtain ⟨h1, h⟩ := h
        replace h := Option.bind_eq_some_iff.mp h; obtain ⟨is, h2, h⟩ := h
        replace h := Option.map_eq_some_iff.mp h; obtain ⟨ma, h3, rfl⟩ := h
        obtain ⟨h4, h5⟩ := and2 h1
        exact st_unp g h2 (S.e g ho _ _ h3) h4 h5
    · replace h := gd_some h; obtain ⟨h1, h⟩ := h
      replace h := Option.bind_eq_some_iff.mp h; obtain ⟨mo, h2, h⟩ := h
      replace h := Option.bind_eq_some_iff.mp h; obtain ⟨mi, h3, h⟩ := h
      replace h := Option.map_eq_some_iff.mp h; obtain ⟨ma, h4, rfl⟩ := h
      obtain ⟨h1, h7⟩ := and2 h1
      obtain ⟨h5, h6⟩ := and2 h1
      exact st_six g (S.e g ho _ _ h2) (S.e g ho _ _ h3) (S.e g ho _ _ h4) h5 h6 h7
    · cases h
  · split at h
    · cases h; exact st_doc
    · replace h := gd_some h; obtain ⟨h1, h⟩ := h
      replace h := Option.map_eq_some_iff.mp h; obtain ⟨ma, h2, rfl⟩ := h
      exact st_expr g (S.e g ho _ _ h2) h1
  · split at h
    · replace h := Option.map_eq_some_iff.mp h; obtain ⟨ma, h2, rfl⟩ := h
      exact st_ret (S.e g ho _ _ h2)
    · cases h; exact st_retN
  · replace h := Option.bind_eq_some_iff.mp h; obtain ⟨mc, h1, h⟩ := h
    replace h := Option.bind_eq_some_iff.mp h; obtain ⟨ma, h2, h⟩ := h
    replace h := Option.map_eq_some_iff.mp h; obtain ⟨mb, h3, rfl⟩ := h
    exact st_if (S.q g ho _ _ h1).1 (T.ss g ho hp hk _ _ h2) (T.ss g ho hp hk _ _ h3)
  · replace h := gd_some h; obtain ⟨h1, h⟩ := h
    replace h := Option.bind_eq_some_iff.mp h; obtain ⟨src, h2, h⟩ := h
    replace h := Option.bind_eq_some_iff.mp h; obtain ⟨t, h3, h⟩ := h
    replace h := Option.map_eq_some_iff.mp h; obtain ⟨mb, h4, rfl⟩ := h
    obtain ⟨h5, h6⟩ := and2 h1
    rw [nil_of h5]
    exact st_for g hp (S.s g ho _ _ _ h2) (tgt_ok g h3) (T.ss g ho hp hk _ _ h4) (notSet_fold h6)
  · replace h := gd_some h; obtain ⟨h1, h⟩ := h
    replace h := Option.bind_eq_some_iff.mp h; obtain ⟨mc, h2, h⟩ := h
    replace h := Option.map_eq_some_iff.mp h; obtain ⟨mb, h4, rfl⟩ := h
    rw [nil_of h1]
    exact st_while g hp (S.q g ho _ _ h2).1 (T.ss g ho hp hk _ _ h4)
  · cases h; exact st_brk
  · cases h; exact st_cnt
  · cases h; exact st_pass
  · split at h
    · split at h
      · rename_i hx
        replace h := gd_some h; obtain ⟨h1, h⟩ := h
        cases h
        obtain ⟨h2, h3⟩ := and2 h1
        exact st_rais g hx h3 (nDbg_ok h2)
      · cases h
    · cases h
  · rename_i body hs orelse fin pos
    replace h := gd_some h; obtain ⟨h1, h⟩ := h
    replace h := Option.bind_eq_some_iff.mp h; obtain ⟨mb, h2, h⟩ := h
    obtain ⟨mh, h3, rfl⟩ := Option.map_eq_some_iff.mp h
    obtain ⟨h4, h5⟩ := and2 h1
    obtain ⟨h6, h7⟩ := and2 h4
    rw [nil_of h6, nil_of h7]
    cases hs with
    | nil => cases h5
    | cons h0 hs => exact st_tri g hk (fun W' pn xe g' hp' => T.ss g' ho hp' hk _ _ h2) (c_hs g h3)
  · cases h
theorem snd_ss (n : Nat) (T : SndS n) (g : Good X G W cf ct lv) (ho : ∀ v M z, cf.repr v M = some z → okS z) (hp : PassesOwn (model X.prog X.w) X.A X.env X.xe) (hk : Stk X) (e : List Stmt) (m : Ss) (h : cSs (n + 1) ct e = some m) : PSs X e (tSs G W cf m) := by
  unfold cSs at h
  split at h
  · cases h; exact st_nil
  · replace h := Option.bind_eq_some_iff.mp h; obtain ⟨ms, h1, h⟩ := h
    replace h := Option.map_eq_some_iff.mp h; obtain ⟨mb, h2, rfl⟩ := h
    exact st_cons (T.s g ho hp hk _ _ h1) (T.ss g ho hp hk _ _ h2)
end
theorem sndS : ∀ n, SndS n
  | 0 => by
    constructor
    · intro X G W cf ct lv g ho hp hk e m h; unfold cSt at h; cases h
    · intro X G W cf ct lv g ho hp hk e m h; unfold cSs at h; cases h
  | n + 1 => ⟨fun g ho hp hk => snd_st n (sndS n) g ho hp hk, fun g ho hp hk => snd_ss n (sndS n) g ho hp hk⟩
end Mi
end MiRun15S

section MiTopS
set_option Elab.async false
set_option linter.all false
set_option maxRecDepth 100000
namespace Mi
open PySem L2
/-! ### what a call leaves -/
mutual
theorem VR.under {K : PySem.W.Frag} {ι : List Addr} {H : Hp} : ∀ {x : Val} {v : V}, VR K ι H x v → below ι.length x = true
  | _, _, .non => rfl
  | _, _, .bl b => rfl
  | _, _, .int i => rfl
  | _, _, .str s h => rfl
  | .tup xs, _, .tup h hs => by simp only [Mi.below]; exact VRs.under hs
  | .frz xs, _, .frz h hs => by simp only [Mi.below]; exact VRs.under hs
  | .fn _, _, .fn _ => rfl
  | .ref n, _, .ref h => by
    simp only [Mi.below]
    obtain ⟨hn, _⟩ := List.getElem?_eq_some_iff.mp h
    exact decide_eq_true hn
theorem VRs.under {K : PySem.W.Frag} {ι : List Addr} {H : Hp} : ∀ {xs : List Val} {vs : List V}, VRs K ι H xs vs → belows ι.length xs = true
  | _, _, .nil => rfl
  | x :: xs, _, .cons h hs => by simp only [Mi.belows]; rw [VR.under h, VRs.under hs]; rfl
end
theorem OR.cut {G : Gs} {ι ι' : List Addr} {H H' : Hp} (l : Le ι H ι' H') {o : Obj} {a : Addr} (h : OR G ι H o a) (h' : OR G ι' H' o a) : OR G ι H' o a := by
  obtain ⟨t, e, _⟩ := l.more
  have et : ι'.take ι.length = ι := by rw [e]; simp
  cases o with
  | lst xs =>
    obtain ⟨vs, _, r⟩ := h
    obtain ⟨ws, e', r'⟩ := h'
    refine ⟨ws, e', ?_⟩
    have := r'.cut (n := ι.length) r.under
    rwa [et] at this
  | dic ks =>
    obtain ⟨vs, _, r⟩ := h
    obtain ⟨ws, e', r'⟩ := h'
    refine ⟨ws, e', ?_⟩
    have key : ∀ {ks : List (Val × Val)} {vs ws : List (Key × V)}, KVs G.K ι H ks vs → KVs G.K ι' H' ks ws → KVs G.K ι H' ks ws := by
      intro ks
      induction ks with
      | nil => intro vs ws r r'; cases r'; exact .nil
      | cons p ks ih =>
        intro vs ws r r'
        cases r with
        | cons q1 q2 => cases r' with
          | cons q3 q4 =>
            refine .cons ⟨⟨q3.1.1, ?_⟩, ?_⟩ (ih q2 q4)
            · have := q3.1.2.cut (n := ι.length) q1.1.2.under
              rwa [et] at this
            · have := q3.2.cut (n := ι.length) q1.2.under
              rwa [et] at this
    exact key r r'
  | exv c => exact h'
theorem HR.back {G : Gs} {ι ι' : List Addr} {H H' : Hp} {M M' : Store} (l : Le ι H ι' H') (hr : HR G ι M H) (hr' : HR G ι' M' H') (e : M'.take M.length = M) : HR G ι M H' := by
  refine ⟨hr.len, fun n o a e1 e2 => ?_, hr.inj⟩
  have hn : n < M.length := (List.getElem?_eq_some_iff.mp e1).1
  have e3 : M'[n]? = some o := by
    rw [← List.getElem?_take_of_lt hn, e]; exact e1
  exact OR.cut l (hr.obj n o a e1 e2) (hr'.obj n o a e3 (l.at e2))
theorem Le.back {ι ι' : List Addr} {H H' : Hp} (l : Le ι H ι' H') : Le ι H ι H' := ⟨⟨[], by simp, fun _ h => by simp at h⟩, l.ext, l.dom, l.keep⟩
theorem VR.back {K : PySem.W.Frag} {ι ι' : List Addr} {H H' : Hp} (l : Le ι H ι' H') {x : Val} {v : V} (r : VR K ι' H' x v) {n : Nat} (hn : ι.length = n) (b : Mi.below n x = true) : VR K ι H' x v := by
  obtain ⟨t, e, _⟩ := l.more
  have et : ι'.take n = ι := by rw [e, ← hn]; simp
  have := r.cut b
  rwa [et] at this
theorem back_ok {G : Gs} {ι : List Addr} {H : Hp} {M : Store} {Q : VK} {E : XK} {r : Out} (hr : HR G ι M H) (h : PostC G ι H Q E (back M r)) : PostO G (fun cls d _ H => E cls d H) ι H { nx := fun _ H' => Q .non H', rt := Q } r := by
  cases r with
  | nx τ M' => exact fun ι' H' σ' l hr' _ => h ι' H' .non l hr' .non
  | ret v M' => exact fun ι' H' w l hr' rv => h ι' H' w l hr' rv
  | brk τ M' => exact h.elim
  | cnt τ M' => exact h.elim
  | bad => exact h.elim
  | exc x τ M' => exact fun ι' H' σ' cls d l hr' _ xr => h ι' H' cls d l hr' xr
theorem start_ok {G : Gs} {ι : List Addr} {H : Hp} {d : Def} {N : List Str} {xs : List Val} {vs : List V} (hN : d.slots = N.length) (r : VRs G.K ι H xs vs) : SR G ι H (Mi.start d xs) (L2.start N vs) := by
  unfold Mi.start L2.start
  refine ⟨by simp [hN, r.length], fun i x e => ?_⟩
  by_cases hi : i < xs.length
  · rw [List.getElem?_append_left (by simpa using hi), List.getElem?_map] at e
    have e2 : xs[i]? = some x := by
      cases q : xs[i]? with
      | none => rw [q] at e; cases e
      | some y => rw [q] at e; exact congrArg some (Option.some.inj (Option.some.inj e))
    obtain ⟨v, h1, h2⟩ := r.get e2
    refine ⟨v, ?_, h2⟩
    rw [List.getElem?_append_left (by rw [List.length_map, ← r.length]; exact hi), List.getElem?_map, h1]; rfl
  · rw [List.getElem?_append_right (by simpa using hi), List.getElem?_replicate] at e
    split at e <;> cases e
/-! ### all defs of a program at once -/
/-- one def: its name, its place in the text, the names of its slots, how many are parameters -/
structure DI where
  name : Str
  st : Stmt
  N : List Str
  params : Nat
structure PI0 where
  defs : List DI
  tab : List (Str × GI)
  excs : List Str
  subs : List (Str × Str)
  tabs : List (Str × List (List Nat × Val))
def PI0.sub (p : PI0) (x y : Str) : Bool := p.subs.any fun q => q.1 == x && q.2 == y
def PI0.gx (p : PI0) : Gx := ⟨fun x => p.defs.findIdx? fun d => d.name == x, fun x => (p.tabs.find? fun t => t.1 == x).map (·.2)⟩
def PI0.gl (p : PI0) (x : Str) : Option GI := p.tab.lookup x
def DI.ct (p : PI0) (d : DI) : Ct := ⟨defScope d.st, d.N, p.gl, fun _ => true⟩
def scopeB (N : List Str) (k : Nat) (sc : Scope) : Bool := (match sc.kind with | .function => true | _ => false) && !sc.isCoroutine && !sc.isGenerator && decide N.Nodup && decide (k ≤ N.length) && (N.take k).all (fun x => match sc.names.lookup x with
    | some .local => true
    | some .cell => true
    | _ => false) && sc.names.all fun y => decide (y.2 ≠ .free)
theorem scopeB_ok {N : List Str} {k : Nat} {sc : Scope} (h : scopeB N k sc = true) : FnScope N (N.take k) sc ∧ (N.take k).length = k := by
  unfold scopeB at h
  obtain ⟨h, h7⟩ := and2 h
  obtain ⟨h, h6⟩ := and2 h
  obtain ⟨h, h5⟩ := and2 h
  obtain ⟨h, h4⟩ := and2 h
  obtain ⟨h, h3⟩ := and2 h
  obtain ⟨h1, h2⟩ := and2 h
  have hk : k ≤ N.length := of_decide_eq_true h5
  have hl : (N.take k).length = k := by rw [List.length_take]; omega
  refine ⟨⟨?_, by simpa using h2, by simpa using h3, of_decide_eq_true h4, by rw [hl], fun x hx => ?_, fun y hy => ?_⟩, hl⟩
  · split at h1
    · assumption
    · cases h1
  · have q := List.all_eq_true.mp h6 x hx
    split at q
    · exact .inl (by assumption)
    · exact .inr (by assumption)
    · cases q
  · exact of_decide_eq_true (List.all_eq_true.mp h7 y hy)
end Mi
end MiTopS

section MiTop2S
set_option Elab.async false
set_option linter.all false
set_option maxRecDepth 100000
namespace Mi
open PySem L2
/-- what must hold of a program's module for its defs to keep to the small language -/
structure Ground (P : Program) (w : World) (K : PySem.W.Frag) (mg : Str → Option Value) (base : Heap) (pi : PI0) (Pg : Prog) (G : Gs) (l0 : Nat) : Prop where
  gk : G.K = K
  defs : ∀ (i : Nat) (d : DI), pi.defs[i]? = some d → ∃ (f : Addr) (fd : FuncData) (qual : Str) (kws : List (Str × V)), mg d.name = some (.ref f) ∧ FunD K d.name qual (defArgs d.st) (defBody d.st) (defScope d.st) [] kws f fd ∧ Binds K fd (d.N.take d.params) []
  comp : ∀ (i : Nat) (d : DI), pi.defs[i]? = some d → ∃ fuel ms, Pg.defs[i]? = some ⟨d.params, d.N.length, ms⟩ ∧ cSs fuel (d.ct pi) (defBody d.st) = some ms ∧ scopeB d.N d.params (defScope d.st) = true
  tabf : ∀ x g k, pi.gl x = some (.fn g k) → ∃ d, pi.defs[g]? = some d ∧ d.name = x ∧ d.params = k
  gaf : ∀ (i : Nat) (d : DI), pi.defs[i]? = some d → mg d.name = some (.ref (He.ga K d.name))
  fno : ∀ x g, Pg.eqx.fno x = some g → ∃ d, pi.defs[g]? = some d ∧ d.name = x
  tabs : ∀ x, pi.gl x = some .tab → ∃ kvs, Pg.eqx.tab x = some kvs ∧ mg x = some (.ref (He.ga K x)) ∧ (∃ es n, KDict K w (He.ga K x) es n) ∧
    (∀ s v, (kvs.find? fun p => p.1 == s).map (·.2) = some v → ∃ u w, PySem.W.nsIn K (He.ga K x) (toS s) = some (some u) ∧ RelV w u ∧ ∀ ι H, VR K ι H v w) ∧ ∀ s, ∃ r, PySem.W.nsIn K (He.ga K x) (toS s) = some r ∧ r.isSome = kvs.any fun p => p.1 == s
  con : ∀ x v, pi.gl x = some (.con v) → ∃ u w, mg x = some u ∧ RelV w u ∧ ∀ ι H, VR K ι H v w
  blt : ∀ x, pi.gl x = some .blt → mg x = none
  exc : ∀ x c, pi.gl x = some (.exc c) → mg x = some (.ref (G.cls c)) ∧ (∃ (bmB : List Value) (B newId initId : String), ExcBaseFacts B newId initId bmB ∧ PySem.W.excIn K (G.cls c) bmB newId = true) ∧ PySem.W.keepIn K (.ref (G.cls c)) = true ∧ PySem.W.typeIn K (.ref (G.cls c)) = some (.type "type")
  exm : ∀ c1 c2 : Nat, PySem.W.exmOne K (.ref (G.cls c1)) (.ref (G.cls c2)) = some (Pg.sub c1 c2)
  rep : RepOk G Pg.repr l0
  repS : ∀ v M z, Pg.repr v M = some z → okS z
  exs : ∀ c : Nat, ExcC K (G.cls c) ∧ ∀ T ∈ ["int", "bool", "str", "tuple", "list", "dict"], PySem.W.kitOne K (.ref (G.cls c)) (.type T) = some false
section
variable {P : Program} {w : World} {K : PySem.W.Frag} {mg : Str → Option Value} {base : Heap} {pi : PI0} {Pg : Prog} {G : Gs} {l0 : Nat}
theorem RepOk.mono {rp : Val → Store → Option (List Nat)} {j k : Nat} (h : RepOk G rp j) (l : j ≤ k) : RepOk G rp k := fun X e gd r c => h X e gd (r.mono l) c
theorem all_ok (T : Ground P w K mg base pi Pg G l0) : ∀ (n i : Nat) (d : DI), pi.defs[i]? = some d → ∀ (f : Addr) (fd : FuncData) (qual : Str) (kws : List (Str × V)), FunD K d.name qual (defArgs d.st) (defBody d.st) (defScope d.st) [] kws f fd →
    FnG P w K mg base (n + l0) f fd (d.N.take d.params) (spI G (call Pg n) i d.params)
  | 0, i, d, hd, f, fd, qual, kws, F => by
    obtain ⟨fuel, ms, h1, h2, h3⟩ := T.comp i d hd
    have hl := (scopeB_ok h3).2
    refine ⟨fun vs H Q E h => ?_, fun A outer s H args us vs Q E _ _ _ _ _ h => ?_⟩
    · obtain ⟨ι, M, xs, e, r, _⟩ := h
      rw [hl, ← r.length, e]
    · obtain ⟨ι, M, xs, e, r, hr, q⟩ := h
      exact q.elim
  | n + 1, i, d, hd, f, fd, qual, kws, F => by
    obtain ⟨fuel, ms, h1, h2, h3⟩ := T.comp i d hd
    obtain ⟨S, hl⟩ := scopeB_ok h3
    have e1 : n + 1 + l0 = (n + l0) + 1 := by omega
    rw [e1]
    refine fnG F S (fun vs H Q E h => ?_) (fun cdv A outer s H vs Q E hgd hroom h => ?_)
    · obtain ⟨ι, M, xs, e, r, _⟩ := h
      rw [hl, ← r.length, e]
    · obtain ⟨ι, M, xs, e, r, hr, q⟩ := h
      have good : Good (cxOf (L2.CX P w) P w K mg base d.N qual (defScope d.st) f cdv A outer s H E) G (fun cls d _ H => E cls d H) ⟨call Pg n, Pg.repr, Pg.eqx, Pg.sub⟩ (d.ct pi) (n + l0) :=
        { gk := T.gk
          sc := rfl
          N := rfl
          nd := S.nd
          calm := rfl
          takes := takes_of rfl rfl rfl rfl
          room := hroom
          gds := Around.deep_guards hgd
          fnc := rfl
          fn := fun x g k hx => by
            obtain ⟨d2, hd2, rfl, rfl⟩ := T.tabf x g k hx
            obtain ⟨f2, fd2, q2, k2, m2, F2, B2⟩ := T.defs g d2 hd2
            exact ⟨f2, fd2, _, m2, F2.kp, B2, all_ok T n g d2 hd2 f2 fd2 q2 k2 F2⟩
          gaf := fun x g k hx => by
            obtain ⟨d2, hd2, rfl, rfl⟩ := T.tabf x g k hx
            exact T.gaf g d2 hd2
          fnx := fun x g hx => by
            obtain ⟨d2, hd2, rfl⟩ := T.fno x g hx
            obtain ⟨f2, fd2, q2, k2, m2, F2, B2⟩ := T.defs g d2 hd2
            have e2 := (T.gaf g d2 hd2).symm.trans m2
            cases e2
            refine ⟨d2.params, fd2, _, F2.kp, B2, all_ok T n g d2 hd2 _ fd2 q2 k2 F2, fun zs M hz => ?_⟩
            cases n with
            | zero => rfl
            | succ n =>
              obtain ⟨fuel2, ms2, c1, _, _⟩ := T.comp g d2 hd2
              show (match Pg.defs[g]? with
                | some d => if zs.length = d.params then back M (exs ⟨call Pg n, Pg.repr, Pg.eqx, Pg.sub⟩ d.body (Mi.start d zs) M) else .bad
                | none => .bad) = _
              rw [c1]
              simp only [hz, if_false]
          tabs := fun x hx => by
            obtain ⟨kvs, e1, e2, e3, e4, e5⟩ := T.tabs x hx
            exact ⟨kvs, e1, e2, e3, e4, e5⟩
          con := T.con
          blt := T.blt
          exc := fun x c hx => by
            obtain ⟨m1, m2, m3, m4⟩ := T.exc x c hx
            exact ⟨m1, m2, m3, (T.exs c).1, m4, (T.exs c).2⟩
          exm := T.exm
          rep := T.rep.mono (by omega)
          exs := T.exs }
      refine ⟨tSs G (fun cls d _ H => E cls d H) ⟨call Pg n, Pg.repr, Pg.eqx, Pg.sub⟩ ms, (sndS fuel).ss good T.repS (passes_of rfl) ⟨rfl, rfl⟩ _ _ h2, ι, Mi.start ⟨d.params, d.N.length, ms⟩ xs, M, start_ok rfl r, hr, back_ok hr ?_⟩
      have ec : call Pg (n + 1) i xs M = back M (exs ⟨call Pg n, Pg.repr, Pg.eqx, Pg.sub⟩ ms (Mi.start ⟨d.params, d.N.length, ms⟩ xs) M) := by
        show (match Pg.defs[i]? with
          | some d => if xs.length = d.params then back M (exs ⟨call Pg n, Pg.repr, Pg.eqx, Pg.sub⟩ d.body (Mi.start d xs) M) else .bad
          | none => .bad) = _
        rw [h1]
        simp only [e, if_true]
      rw [ec] at q
      exact q
end
end Mi
end MiTop2S

section MiHeadS
set_option Elab.async false
set_option linter.all false
set_option maxRecDepth 100000
namespace Mi
open PySem L2
/-! ### constants of the module -/
def okB (s : List Nat) : Bool := decide (s.length ≤ LIM) && s.all fun c => decide (c < 128)
theorem okB_ok {s : List Nat} (h : okB s = true) : okS s := by
  unfold okB at h
  obtain ⟨h1, h2⟩ := and2 h
  exact ⟨of_decide_eq_true h1, fun c hc => of_decide_eq_true (List.all_eq_true.mp h2 c hc)⟩
mutual
def conB (K : PySem.W.Frag) : Val → Value → Bool
  | .non, .none => true
  | .bl b, .bool c => b == c
  | .int i, .int j _ => decide (i = j)
  | .str s, .str y _ => decide (y = toS s) && okB s
  | .tup xs, .ref a => (match K.lookup a with
    | some ⟨.type c, _, .seq its _, _⟩ => decide (c = "tuple") && decide (its.size ≤ sizeLine) && conBs K xs its.toList
    | _ => false)
  | .frz xs, .ref a => (match K.lookup a with
    | some ⟨.type c, none, .seq its _, _⟩ => decide (c = "list") && decide (its.size ≤ sizeLine) && conBs K xs its.toList
    | _ => false)
  | .fn x, .ref a => decide (a = He.ga K x)
  | _, _ => false
def conBs (K : PySem.W.Frag) : List Val → List Value → Bool
  | [], [] => true
  | x :: xs, u :: us => conB K x u && conBs K xs us
  | _, _ => false
end
mutual
theorem conB_ok {K : PySem.W.Frag} : ∀ {x : Val} {u : Value}, conB K x u = true → ∃ w, RelV w u ∧ ∀ ι H, VR K ι H x w
  | .non, u, h => by
    cases u <;> first | exact ⟨.non, rfl, fun _ _ => .non⟩ | (simp [conB] at h)
  | .bl b, u, h => by
    cases u with
    | bool c =>
      have e : b = c := by simpa [conB] using h
      subst e
      exact ⟨.bl b, rfl, fun _ _ => .bl b⟩
    | _ => simp [conB] at h
  | .int i, u, h => by
    cases u with
    | int j t =>
      have e : i = j := by simpa [conB] using h
      subst e
      exact ⟨.int i, ⟨t, rfl⟩, fun _ _ => .int i⟩
    | _ => simp [conB] at h
  | .str s, u, h => by
    cases u with
    | str y t =>
      simp only [conB] at h
      obtain ⟨h1, h2⟩ := and2 h
      have e := of_decide_eq_true h1
      subst e
      exact ⟨.str (toS s), ⟨t, rfl⟩, fun _ _ => .str s (okB_ok h2)⟩
    | _ => simp [conB] at h
  | .tup xs, u, h => by
    cases u with
    | ref a =>
      simp only [conB] at h
      split at h
      · rename_i c od its n sl e
        obtain ⟨h, h3⟩ := and2 h
        obtain ⟨h1, h2⟩ := and2 h
        obtain ⟨ws, rv, rr⟩ := conBs_ok h3
        exact ⟨.ref a, rfl, fun ι H => .tup (.inr ⟨_, its, n, e, congrArg Value.type (of_decide_eq_true h1), rfl, of_decide_eq_true h2, rv⟩) (rr ι H)⟩
      · cases h
    | _ => simp [conB] at h
  | .frz xs, u, h => by
    cases u with
    | ref a =>
      simp only [conB] at h
      split at h
      · rename_i c its n sl e
        obtain ⟨h, h3⟩ := and2 h
        obtain ⟨h1, h2⟩ := and2 h
        obtain ⟨ws, rv, rr⟩ := conBs_ok h3
        exact ⟨.ref a, rfl, fun ι H => .frz (.inr ⟨_, its, n, e, congrArg Value.type (of_decide_eq_true h1), rfl, rfl, of_decide_eq_true h2, rv⟩) (rr ι H)⟩
      · cases h
    | _ => simp [conB] at h
  | .ref n, u, h => by cases u <;> simp [conB] at h
  | .fn x, u, h => by
    cases u with
    | ref a =>
      have e : a = He.ga K x := by simpa [conB] using h
      subst e
      exact ⟨.ref (He.ga K x), rfl, fun _ _ => .fn x⟩
    | _ => simp [conB] at h
theorem conBs_ok {K : PySem.W.Frag} : ∀ {xs : List Val} {us : List Value}, conBs K xs us = true → ∃ ws, Vals ws us ∧ ∀ ι H, VRs K ι H xs ws
  | [], [], _ => ⟨[], .nil, fun _ _ => .nil⟩
  | [], _ :: _, h => by simp [conBs] at h
  | _ :: _, [], h => by simp [conBs] at h
  | x :: xs, u :: us, h => by
    simp only [conBs] at h
    obtain ⟨h1, h2⟩ := and2 h
    obtain ⟨w, r1, r2⟩ := conB_ok h1
    obtain ⟨ws, r3, r4⟩ := conBs_ok h2
    exact ⟨w :: ws, .cons r1 r3, fun ι H => .cons (r2 ι H) (r4 ι H)⟩
end
/-! ### what is looked at behind the top -/
def kitTs : List String := ["int", "bool", "str", "tuple", "list", "dict"]
def excB (K : PySem.W.Frag) (x : Str) : Bool := (((He.Fa.glo x).ok K && (He.Fa.exc x).ok K) && (He.eqO (PySem.W.findIn K (.ref (He.ga K x)) "__repr__") (some (some (.builtin "BaseException.__repr__"))) && nameB K (He.ga K x) x)) &&
  (He.eqO (PySem.W.findIn K (.ref (He.ga K x)) "__getattribute__") (some (some (.builtin "BaseException.__getattribute__"))) && (He.eqO (PySem.W.findIn K (.ref (He.ga K x)) "__getattr__") (some none) && (decide (PySem.W.hasDictIn K (He.ga K x) = true) &&
  (He.eqO (PySem.W.findIn K (.ref (He.ga K x)) "__class__") (some (some (.builtin "object.__class__"))) && (He.eqO (PySem.W.specialIn K (.builtin "object.__class__") "__get__") (some (some (.builtin "getset_descriptor.__get__"))) &&
  (decide (PySem.W.takesIn K (.builtin "object.__class__") = some true) && (decide (PySem.W.mroIn K (He.ga K x) (.type "object") = some true) && kitTs.all fun T => decide (PySem.W.kitOne K (.ref (He.ga K x)) (.type T) = some false))))))))
theorem excB_ok {K : PySem.W.Frag} {x : Str} (h : excB K x = true) : (((He.Fa.glo x).ok K = true ∧ (He.Fa.exc x).ok K = true) ∧ NmOk K (He.ga K x) x) ∧ ExcC K (He.ga K x) ∧ ∀ T ∈ kitTs, PySem.W.kitOne K (.ref (He.ga K x)) (.type T) = some false := by
  unfold excB at h
  obtain ⟨h0, h⟩ := and2 h
  obtain ⟨h1, h⟩ := and2 h
  obtain ⟨h2, h⟩ := and2 h
  obtain ⟨h3, h⟩ := and2 h
  obtain ⟨h4, h⟩ := and2 h
  obtain ⟨h5, h⟩ := and2 h
  obtain ⟨h6, h⟩ := and2 h
  obtain ⟨h7, h8⟩ := and2 h
  obtain ⟨h0, hr⟩ := and2 h0
  obtain ⟨hr1, hr2⟩ := and2 hr
  exact ⟨⟨and2 h0, He.eqO_ok hr1, nameB_ok hr2⟩, ⟨He.eqO_ok h1, He.eqO_ok h2, (He.exc_ok (and2 h0).2).2.2.1, of_decide_eq_true h3, He.eqO_ok h4, He.eqO_ok h5, of_decide_eq_true h6, of_decide_eq_true h7⟩, fun T hT => of_decide_eq_true (List.all_eq_true.mp h8 T hT)⟩
def exmB (p : PI0) (K : PySem.W.Frag) : Bool := p.excs.all fun x => p.excs.all fun y => (He.Fa.exm x y (p.sub x y)).ok K
def clsOf (p : PI0) (c : Nat) : Str := p.excs.getD c (p.excs.headD "")
def giB (p : PI0) (K : PySem.W.Frag) (q : Str × GI) : Bool := match q.2 with
  | .fn g k => (match p.defs[g]? with
    | some d => decide (d.name = q.1) && decide (d.params = k)
    | none => false)
  | .con v => (match PySem.W.nsIn K mainGlobals q.1 with
    | some (some u) => conB K v u
    | _ => false)
  | .exc c => decide (clsOf p c = q.1) && p.excs.contains q.1
  | .blt => (He.Fa.free q.1).ok K
  | .tab => (He.Fa.glo q.1).ok K && (p.gx.tab q.1).isSome
def subP (p : PI0) (c1 c2 : Nat) : Bool := p.sub (clsOf p c1) (clsOf p c2)
/-- a table's values -/
def tabB (K : PySem.W.Frag) (t : Str × List (List Nat × Val)) : Bool := t.2.all fun q => match PySem.W.nsIn K (He.ga K t.1) (toS q.1) with
  | some (some u) => conB K q.2 u
  | _ => false
def lookB (p : PI0) (K : PySem.W.Frag) : Bool := (p.tab.all (giB p K) && !p.excs.isEmpty) && ((p.excs.all (excB K) && exmB p K) && p.defs.all fun d => (He.Fa.glo d.name).ok K) && p.tabs.all (tabB K)
def fnD (d : DI) : He.DefD := ⟨(d.name, none), d.name, d.name, defArgs d.st, defBody d.st, defScope d.st, [], []⟩
abbrev AlM : Type := (He.AlD × List (Option (List (Option (Str × Int))))) × Bool
def obsM (p : PI0) (K : PySem.W.Frag) : AlM := ((He.obsD [] (p.defs.map fnD) K, p.tabs.map fun t => He.dicW K (He.ga K t.1)), lookB p K)
def valM (p : PI0) (w : World) : AlM := ((He.valD (p.defs.map fnD), p.tabs.map fun t => some (He.keysIn w.params (t.2.map fun q => toS q.1))), true)
def obsMG (n : Nat) (p : PI0) (g : Addr → Option PySem.Obj) : AlM := obsM p (He.frG g (He.asD g n))
def SaysM (p : PI0) (w : World) (K : PySem.W.Frag) : Prop := obsM p K = valM p w
def hookM (n : Nat) (p : PI0) : PySem.W.Hook where
  α := AlM
  obs := fun s => obsMG n p s.heap.get?
  val := fun w => valM p w
  says := fun w h => ∃ K : PySem.W.Frag, K.In h ∧ SaysM p w K
  of := fun _ _ e => ⟨_, He.frG_in, e⟩
  keeps := fun _ _ _ ⟨K, hK, c⟩ k => ⟨K, PySem.W.Frag.In.keeps hK k, c⟩
theorem obsMG_eq {n : Nat} {p : PI0} {g : Addr → Option PySem.Obj} {s : Shared} (h : ∀ a, g a = s.heap.get? a) : obsMG n p g = (hookM n p).obs s := by
  have e : g = s.heap.get? := funext h
  rw [e] <;> rfl
theorem clsOf_mem {p : PI0} (h1 : (!p.excs.isEmpty) = true) (n : Nat) : clsOf p n ∈ p.excs := by
  unfold clsOf
  cases e : p.excs with
  | nil => rw [e] at h1; cases h1
  | cons y ys =>
    by_cases hn : n < (y :: ys).length
    · rw [List.getD_eq_getElem?_getD, List.getElem?_eq_getElem hn]
      exact List.getElem_mem hn
    · rw [List.getD_eq_getElem?_getD, List.getElem?_eq_none (by omega)]
      exact List.mem_cons_self
section
variable {p : PI0} {w : World} {K : PySem.W.Frag}
theorem SaysM.d (c : SaysM p w K) : He.SaysD [] (p.defs.map fnD) K := congrArg (fun z : AlM => z.1.1) c
theorem SaysM.l (c : SaysM p w K) : lookB p K = true := congrArg (fun z : AlM => z.2) c
theorem SaysM.fn (c : SaysM p w K) {i : Nat} {d : DI} (h : p.defs[i]? = some d) : ∃ fd, FunD K d.name d.name (defArgs d.st) (defBody d.st) (defScope d.st) [] [] (He.ga K d.name) fd :=
  c.d.def_ i (d := fnD d) (by rw [List.getElem?_map, h]; rfl)
theorem SaysM.glo (c : SaysM p w K) {h : Heap} {mg : Str → Option Value} (X : K.In h) (G : h.Ns mainGlobals mg) {i : Nat} {d : DI} (hd : p.defs[i]? = some d) : mg d.name = some (.ref (He.ga K d.name)) := by
  have l := (and2 (show ((p.tab.all (giB p K) && !p.excs.isEmpty) && ((p.excs.all (excB K) && exmB p K) && p.defs.all fun d => (He.Fa.glo d.name).ok K) && p.tabs.all (tabB K)) = true from c.l)).1
  exact He.glo_ok X G (List.all_eq_true.mp (and2 (and2 l).2).2 d (List.mem_of_getElem? hd))
theorem SaysM.k (c : SaysM p w K) : p.tabs.map (fun t => He.dicW K (He.ga K t.1)) = p.tabs.map fun t => some (He.keysIn w.params (t.2.map fun q => toS q.1)) := congrArg (fun z : AlM => z.1.2) c
theorem SaysM.gi (c : SaysM p w K) {x : Str} {g : GI} (h : p.gl x = some g) : giB p K (x, g) = true := by
  have l := (and2 (show ((p.tab.all (giB p K) && !p.excs.isEmpty) && ((p.excs.all (excB K) && exmB p K) && p.defs.all fun d => (He.Fa.glo d.name).ok K) && p.tabs.all (tabB K)) = true from c.l)).1
  exact List.all_eq_true.mp (and2 (and2 l).1).1 (x, g) (PySem.mem_of_lookup h)
theorem SaysM.exc (c : SaysM p w K) (n : Nat) : excB K (clsOf p n) = true := by
  have l := (and2 (show ((p.tab.all (giB p K) && !p.excs.isEmpty) && ((p.excs.all (excB K) && exmB p K) && p.defs.all fun d => (He.Fa.glo d.name).ok K) && p.tabs.all (tabB K)) = true from c.l)).1
  have h1 := (and2 (and2 l).1).2
  have h2 := (and2 (and2 (and2 l).2).1).1
  exact List.all_eq_true.mp h2 _ (clsOf_mem h1 n)
theorem SaysM.exm (c : SaysM p w K) (c1 c2 : Nat) : PySem.W.exmOne K (.ref (He.ga K (clsOf p c1))) (.ref (He.ga K (clsOf p c2))) = some (subP p c1 c2) := by
  have l := (and2 (show ((p.tab.all (giB p K) && !p.excs.isEmpty) && ((p.excs.all (excB K) && exmB p K) && p.defs.all fun d => (He.Fa.glo d.name).ok K) && p.tabs.all (tabB K)) = true from c.l)).1
  have h1 := (and2 (and2 l).1).2
  have h2 := (and2 (and2 (and2 l).2).1).2
  unfold exmB at h2
  have h3 := List.all_eq_true.mp h2 _ (clsOf_mem h1 c1)
  exact He.exm_ok (List.all_eq_true.mp h3 _ (clsOf_mem h1 c2))
end
/-- a def binds its arguments by place -/
def BindOk (d : DI) : Prop := ∀ (kV doc pm : Value) (an : Option Addr) (cdv ct : Value) (us : List Value), us.length = (d.N.take d.params).length → bindArgs (PySem.W.fnOf d.name d.name (defArgs d.st) (defBody d.st) (defScope d.st) .none kV doc pm an cdv ct) ⟨us, []⟩ = pure ((d.N.take d.params).zip us)
def AllL {α : Type} (P : α → Prop) : List α → Prop
  | [] => True
  | x :: xs => P x ∧ AllL P xs
theorem AllL.at {α : Type} {P : α → Prop} : ∀ {l : List α} {i : Nat} {x : α}, AllL P l → l[i]? = some x → P x
  | _ :: _, 0, _, h, e => by simp at e; subst e; exact h.1
  | _ :: _, i + 1, _, h, e => AllL.at h.2 (by simpa using e)
  | [], _, _, _, e => by simp at e
/-- the compiled bodies -/
def CompOk (p : PI0) (bodies : List Ss) (q : DI × Nat) : Prop := ∃ ms, bodies[q.2]? = some ms ∧ cSs 300 (q.1.ct p) (defBody q.1.st) = some ms ∧ scopeB q.1.N q.1.params (defScope q.1.st) = true
def gsOf (p : PI0) (K : PySem.W.Frag) : Gs := ⟨K, fun c => He.ga K (clsOf p c)⟩
theorem rep_of {p : PI0} {K : PySem.W.Frag} (c : SaysM p w K) : RepOk (gsOf p K) (reprP (clsOf p)) 0 := rep_ok (G := gsOf p K) (fun n => (excB_ok (c.exc n)).1.2) fun n => (excB_ok (c.exc n)).2.1
/-! ### tables with text keys -/
theorem dicW_keys {K : PySem.W.Frag} {w : World} {a : Addr} {ks : List Str} (h : He.dicW K a = some (He.keysIn w.params ks)) : ∃ es n, KDict K w a es n ∧ es.toList.map He.keyOf = He.keysIn w.params ks := by
  obtain ⟨es, n, D⟩ := He.dicW_ok h
  refine ⟨es, n, D, ?_⟩
  unfold He.dicW at h
  rw [D.at_] at h
  simp only at h
  split at h
  · exact Option.some.inj h
  · cases h
theorem keys_find {P : Params} (x : Str) : ∀ {l : List DictEntry} {ks : List Str}, l.map He.keyOf = He.keysIn P ks → (l.find? fun e => e.key.isStr x).isSome = (ks.any fun k => k == x) ∧ (l.any fun e => e.refKey) = false
  | [], [], _ => ⟨rfl, rfl⟩
  | [], _ :: _, h => by cases h
  | _ :: _, [], h => by cases h
  | e :: l, k :: ks, h => by
    have h1 : He.keyOf e :: l.map He.keyOf = some (k, PyData.keyHash P k) :: He.keysIn P ks := h
    injection h1 with h2 h3
    obtain ⟨i1, i2⟩ := keys_find x h3
    unfold He.keyOf at h2
    split at h2
    · rename_i y t q
      obtain ⟨h5, h6⟩ := Prod.mk.inj (Option.some.inj h2)
      have r1 : e.refKey = false := by
        unfold DictEntry.refKey
        rw [q]
      have r2 : e.key.isStr x = (k == x) := by
        rw [q, ← h5]
        rfl
      rw [List.find?_cons, List.any_cons, List.any_cons, r1, r2, i2]
      cases k == x with
      | true => exact ⟨rfl, rfl⟩
      | false => exact ⟨i1, rfl⟩
    · cases h2
theorem toS_beq (a b : List Nat) : (toS a == toS b) = (a == b) := by
  by_cases h : a = b
  · subst h; simp
  · rw [beq_eq_false_iff_ne.mpr h, beq_eq_false_iff_ne.mpr fun z => h (toS_inj z)]
theorem ns_has {K : PySem.W.Frag} {w : World} {a : Addr} {kvs : List (List Nat × Val)} (h : He.dicW K a = some (He.keysIn w.params (kvs.map fun q => toS q.1))) (s : List Nat) : ∃ r, PySem.W.nsIn K a (toS s) = some r ∧ r.isSome = kvs.any fun p => p.1 == s := by
  obtain ⟨es, n, D, hk⟩ := dicW_keys h
  obtain ⟨h1, h2⟩ := keys_find (toS s) hk
  have e : ((kvs.map fun q => toS q.1).any fun k => k == toS s) = kvs.any fun p => p.1 == s := by
    rw [List.any_map]
    congr 1
    funext q
    exact toS_beq _ _
  rw [e] at h1
  unfold PySem.W.nsIn
  rw [D.at_]
  simp only
  cases hf : es.toList.find? (fun x => x.key.isStr (toS s)) with
  | some d =>
    rw [hf] at h1
    exact ⟨some d.val, rfl, h1⟩
  | none =>
    rw [hf] at h1
    refine ⟨none, ?_, h1⟩
    simp only [h2]
    rfl
theorem ground_of {P : Program} {w : World} {K : PySem.W.Frag} {mg : Str → Option Value} {base : Heap} {p : PI0} {Pg : Prog} {l0 : Nat} (X : K.In base) (G : base.Ns mainGlobals mg) (c : SaysM p w K) (hb : AllL BindOk p.defs)
    (hc : ∀ (i : Nat) (d : DI), p.defs[i]? = some d → ∃ ms, Pg.defs[i]? = some ⟨d.params, d.N.length, ms⟩ ∧ cSs 300 (d.ct p) (defBody d.st) = some ms ∧ scopeB d.N d.params (defScope d.st) = true) (rep : RepOk (gsOf p K) Pg.repr l0) (repS : ∀ v M z, Pg.repr v M = some z → okS z) (hsub : Pg.sub = subP p) (hgx : Pg.eqx = p.gx) : Ground P w K mg base p Pg (gsOf p K) l0 where
  gk := rfl
  defs := fun i d hd => by
    obtain ⟨fd, F⟩ := c.fn hd
    exact ⟨_, fd, d.name, [], c.glo X G hd, F, F.bindsN (AllL.at hb hd)⟩
  comp := fun i d hd => by
    obtain ⟨ms, h⟩ := hc i d hd
    exact ⟨300, ms, h⟩
  tabf := fun x g k h => by
    have q := c.gi h
    unfold giB at q
    simp only at q
    split at q
    · rename_i d hd
      obtain ⟨q1, q2⟩ := and2 q
      exact ⟨d, hd, of_decide_eq_true q1, of_decide_eq_true q2⟩
    · cases q
  gaf := fun i d hd => c.glo X G hd
  fno := fun x g h => by
    rw [hgx] at h
    obtain ⟨hg, hp, _⟩ := List.findIdx?_eq_some_iff_getElem.mp h
    exact ⟨p.defs[g], List.getElem?_eq_getElem hg, by simpa using hp⟩
  tabs := fun x h => by
    have q := c.gi h
    unfold giB at q
    simp only at q
    obtain ⟨q1, q2⟩ := and2 q
    obtain ⟨kvs, hk⟩ := Option.isSome_iff_exists.mp q2
    obtain ⟨t, ht, ek⟩ := Option.map_eq_some_iff.mp hk
    have hm := List.mem_of_find?_eq_some ht
    have e1 : t.1 = x := by simpa using List.find?_some ht
    obtain ⟨i, hi, ei⟩ := List.mem_iff_getElem.mp hm
    have ck := c.k
    have c2 : He.dicW K (He.ga K t.1) = some (He.keysIn w.params (t.2.map fun q => toS q.1)) := by
      have := congrArg (fun z => z[i]?) ck
      simp only [List.getElem?_map, List.getElem?_eq_getElem hi, ei, Option.map_some, Option.some.injEq] at this
      exact this
    rw [e1, ek] at c2
    obtain ⟨es, n, D, _⟩ := dicW_keys c2
    have l := (and2 (show ((p.tab.all (giB p K) && !p.excs.isEmpty) && ((p.excs.all (excB K) && exmB p K) && p.defs.all fun d => (He.Fa.glo d.name).ok K) && p.tabs.all (tabB K)) = true from c.l)).2
    have lt := List.all_eq_true.mp l t hm
    unfold tabB at lt
    rw [e1, ek] at lt
    refine ⟨kvs, by rw [hgx]; exact hk, He.glo_ok X G q1, ⟨es, n, D⟩, fun s v e => ?_, ns_has c2⟩
    obtain ⟨r, hr, rfl⟩ := Option.map_eq_some_iff.mp e
    have e2 : r.1 = s := by simpa using List.find?_some hr
    have z := List.all_eq_true.mp lt r (List.mem_of_find?_eq_some hr)
    rw [e2] at z
    split at z
    · rename_i u hu
      obtain ⟨v2, r1, r2⟩ := conB_ok z
      exact ⟨u, v2, hu, r1, r2⟩
    · cases z
  con := fun x v h => by
    have q := c.gi h
    unfold giB at q
    simp only at q
    split at q
    · rename_i u hu
      obtain ⟨w, r1, r2⟩ := conB_ok q
      exact ⟨u, w, PySem.W.mg_of X G hu, r1, r2⟩
    · cases q
  blt := fun x h => He.free_ok X G (c.gi h)
  exc := fun x n h => by
    have q := c.gi h
    unfold giB at q
    simp only at q
    obtain ⟨q1, q2⟩ := and2 q
    have e := of_decide_eq_true q1
    have z := (excB_ok (c.exc n)).1.1
    obtain ⟨z1, z2, _, z4⟩ := He.exc_ok z.2
    have hg : mg (clsOf p n) = some (.ref (He.ga K (clsOf p n))) := He.glo_ok X G z.1
    exact ⟨by rw [← e]; exact hg, ⟨_, _, _, _, PySem.F.excBase_ValueError, z1⟩, z2, z4⟩
  exm := fun c1 c2 => by rw [hsub]; exact c.exm c1 c2
  rep := rep
  repS := repS
  exs := fun n => let z := excB_ok (c.exc n); ⟨z.2.1, z.2.2⟩
end Mi
end MiHeadS

section MiEndS
set_option Elab.async false
set_option linter.all false
set_option maxRecDepth 100000
namespace Mi
open PySem PySem.Spec PyProof.Rows L2
theorem fixed_of {K : PySem.W.Frag} {H : Hp} {a : Addr} {vs : List V} (h : SqL K H a vs) (o : Only H) : Fixed K H a vs := by
  rcases h with (h | h) | h
  · rcases o a with e | ⟨ob, xs, e⟩
    · rw [e] at h; cases h
    · rw [e] at h; cases h
  · exact .inl h
  · exact .inr h
theorem ints_vrs {K : PySem.W.Frag} {ι : List Addr} {H : Hp} : ∀ ns : List Int, VRs K ι H (ns.map Val.int) (ns.map V.int)
  | [] => .nil
  | n :: ns => .cons (.int n) (ints_vrs ns)
theorem law_spec {G : Gs} {H : Hp} {a : Addr} {ns : List Int} {Pg : Prog} {n i : Nat} {M : Store} (hS : SqL G.K H a (ns.map V.int)) (hO : Only H) (e : call Pg n i [.frz (ns.map Val.int)] [] = .ok (.bl true) M) :
    spI G (call Pg n) i 1 [.ref a] H (fun v _ => v = .bl true) fun _ _ _ => False := by
  refine ⟨[], [], [.frz (ns.map Val.int)], rfl, .cons (.frz (fixed_of hS hO) (ints_vrs ns)) .nil, ⟨rfl, fun n o a e => by simp at e, List.nodup_nil⟩, ?_⟩
  rw [e]
  intro ι' H' w _ _ r
  cases r
  rfl
theorem noCX {P : Program} {w : World} (H : Hp) (s : Shared) (e : Value) (s' : Shared) (h : L2.CX P w [] H s (fun _ _ _ => False) e s') : False := by
  obtain ⟨_, _, _, _, _, _, _, _, _, _, _, _, z⟩ := h
  exact z
/-- the law's call, from the first caller: nothing is under way there -/
theorem lawCore {P : Program} {w : World} {K : PySem.W.Frag} {mg mb : Str → Option Value} {k : Nat} {fa a : Addr} {fd : FuncData} {x : Str} {sp : Sp} {z : Shared} {vs : List Value} {H : Hp}
    (KX : K.In z.heap) (n1 : z.heap.Ns mainGlobals mg) (n2 : z.heap.Ns builtinsNs mb) (n3 : ∀ y : Str, y ≠ "__name__" → mb y = bootBuiltins y) (nl : z.heap.NoLimit) (hg : z.gens = #[]) (ea : z.heap.get? a = some { cls := .type "list", data := .seq vs.toArray }) (rm : Room k callerA)
    (F : ∀ base : Heap, K.In base → base.Ns mainGlobals mg → FnG P w K mg base k fa fd [x] sp) (bn : ∀ (s : Shared) (u : Value), BindsTo s fd ⟨[u], []⟩ [(x, u)]) (hsp : sp [.ref a] H (fun v _ => v = .bl true) fun _ _ _ => False)
    (oH : Only H) (hok : HOk P w H z.heap) (hA : ∀ b, H b ≠ none → b = a) (hK : H a ≠ none → K.lookup a = none) :
    codeAny (model P w) callerA (.call (.ref fa) ⟨[.ref a], []⟩) (fun r s' => r = .ok (.ret (.bool true)) ∧ OldK z.heap s'.heap ∧ s'.os = z.os ∧ AllBare s'.gens) z := by
  have other : ∀ {b : Addr}, b ≠ a → H b = none := fun {b} nb => Classical.byContradiction fun q => nb (hA b q)
  have dictNone : ∀ {b : Addr} {o : PySem.Obj} {es : Array DictEntry} {ep : Nat}, z.heap.get? b = some o → o.data = .dict es ep → H b = none := fun {b o es ep} e d => other fun q => by
    rw [q, ea] at e
    cases e
    cases d
  have ns : ∀ {b : Addr} {m : Str → Option Value}, z.heap.Ns b m → (hidT z.heap H).Ns b m := fun {b m} ⟨o, es, ep, e, d, r⟩ => ⟨o, es, ep, hidT_get e (dictNone e d), d, r⟩
  have Kb : K.In (hidT z.heap H) := fun b o e => hidT_get (KX b o e) (by
    by_cases q : b = a
    · cases hq : H b with
      | none => rfl
      | some u =>
        have z1 := hK (by rw [← q, hq]; exact fun t => by cases t)
        rw [q, z1] at e
        cases e
    · exact other q)
  have lim : (hidT z.heap H).NoLimit := let ⟨mc, h1, h2⟩ := nl; ⟨mc, ns h1, h2⟩
  have e0 : Env0 P w K mg (hidT z.heap H) callerA [] z H :=
    { frames := rfl, mod := ⟨Kb, ns n1, ⟨mb, ns n2, n3⟩, lim⟩, bs := fun b o e => of_hidT e, bsz := Nat.le_of_eq (hidT_size _ _), funs := trivial, frf := (fun b hb => nomatch hb), hok := hok, bare := .of_eq hg }
  refine codeAny_mono ((F _ Kb (ns n1)).go callerA [] z H ⟨[.ref a], []⟩ [.ref a] [.ref a] _ _ rfl rm e0 (bn z (.ref a)) (.cons rfl .nil) hsp) ?_
  intro r s' h
  match r, h with
  | .error e, h => exact (noCX H z e s' h).elim
  | .ok (.ret u), ⟨v, H', os, bare, un, hok', r', q⟩ =>
    have q1 : v = .bl true := q
    subst q1
    have q2 : u = Value.bool true := r'
    subst q2
    refine ⟨rfl, OldK.of_keep ?_, os, bare⟩
    intro b o e
    cases hb : H b with
    | none => exact un.keep b o e hb (fun t => by cases t) (fun t => by cases t)
    | some u =>
      rcases oH b with t | ⟨ob, xs, t⟩
      · rw [hb] at t; cases t
      · have t1 := (hok b _ t).1
        have t2 := (hok' b _ (un.frzs b ob _ t)).1
        rw [e] at t1
        rw [t2]
        exact t1.symm
theorem lawG {P : Program} {w : World} {K : PySem.W.Frag} {mg mb : Str → Option Value} {k : Nat} {fa a : Addr} {fd : FuncData} {x : Str} {sp : Sp} {z : Shared} {vs : List Value} {ns : List Int}
    (KX : K.In z.heap) (n1 : z.heap.Ns mainGlobals mg) (n2 : z.heap.Ns builtinsNs mb) (n3 : ∀ y : Str, y ≠ "__name__" → mb y = bootBuiltins y) (nl : z.heap.NoLimit) (hg : z.gens = #[]) (ea : z.heap.get? a = some { cls := .type "list", data := .seq vs.toArray }) (hi : IntsAre vs ns) (hl : ns.length ≤ sizeLine) (rm : Room k callerA)
    (F : ∀ base : Heap, K.In base → base.Ns mainGlobals mg → FnG P w K mg base k fa fd [x] sp) (bn : ∀ (s : Shared) (u : Value), BindsTo s fd ⟨[u], []⟩ [(x, u)]) (hsp : ∀ H : Hp, Only H → SqL K H a (ns.map V.int) → sp [.ref a] H (fun v _ => v = .bl true) fun _ _ _ => False) :
    codeAny (model P w) callerA (.call (.ref fa) ⟨[.ref a], []⟩) (fun r s' => r = .ok (.ret (.bool true)) ∧ OldK z.heap s'.heap ∧ s'.os = z.os ∧ AllBare s'.gens) z := by
  have rv := vals_ints hi
  have le := hi.length
  cases hk : K.lookup a with
  | some o =>
    have e := KX a o hk
    rw [ea] at e
    cases e
    have oH : Only fun _ => none := fun _ => .inl rfl
    refine lawCore KX n1 n2 n3 nl hg ea rm F bn (hsp _ oH (.inr ⟨_, vs.toArray, _, hk, rfl, rfl, rfl, ?_, ?_⟩)) oH (fun b u t => by cases t) (fun b t => absurd rfl t) fun t => absurd rfl t
    · simp only [List.size_toArray]; omega
    · simpa using rv
  | none =>
    let ob : PySem.Obj := { cls := .type "list", data := .seq vs.toArray }
    let H : Hp := fun b => if b = a then some (.frz ob (.lst (ns.map V.int))) else none
    have ha : H a = some (.frz ob (.lst (ns.map V.int))) := if_pos rfl
    have hn : ∀ b, b ≠ a → H b = none := fun b t => if_neg t
    have oH : Only H := fun b => by
      by_cases t : b = a
      · exact .inr ⟨ob, _, t ▸ ha⟩
      · exact .inl (hn b t)
    refine lawCore KX n1 n2 n3 nl hg ea rm F bn (hsp H oH (.inl (.inr ⟨ob, ha⟩))) oH (fun b u t => ?_) (fun b t => Classical.byContradiction fun q => t (hn b q)) fun _ => hk
    by_cases q : b = a
    · subst q
      have t2 := ha.symm.trans t
      cases t2
      exact ⟨ea, by rw [List.length_map]; exact hl, vs, _, rv, ea⟩
    · rw [hn b q] at t
      cases t
theorem walkM {l : PySem.W.OpenLaw} {n k : Nat} {q : Program} {loose : List Str} {XP : (Str → Option Value) → Heap → Prop} {YP : World → Heap → Prop} {d : DefRec} {x : Str} (hn : l.most = some n) (hn2 : n ≤ sizeLine) (hdf : d.params.defaults = []) (rm : Room k callerA)
    (F : ∀ (w : World) (mg : Str → Option Value) (fa : Addr) (h : Heap), YP w h → h.Ns mainGlobals mg → mg d.name = some (.ref fa) → ∃ (K : PySem.W.Frag) (fd : FuncData) (sp : Sp), K.In h ∧ (∀ (s : Shared) (u : Value), BindsTo s fd ⟨[u], []⟩ [(x, u)]) ∧
      (∀ (H : Hp) (a : Addr) (ns : List Int), ns.length ≤ n → Only H → SqL K H a (ns.map V.int) → sp [.ref a] H (fun v _ => v = .bl true) fun _ _ _ => False) ∧ ∀ base : Heap, K.In base → base.Ns mainGlobals mg → FnG l.prog w K mg base k fa fd [x] sp) :
    PySem.W.WalkO q loose XP YP l.row.toRowW d [] (fun f vs => PySem.call f vs) := by
  refine Att.attach_call hn hdf ?_
  intro w s0 z mg mb fa o pm cd doc a vs ns G Y ho hd hcd hmg hobj hints hlen hg
  obtain ⟨K, fd, sp, KX, hb, hsp, hF⟩ := F w mg fa _ Y G.T.g hmg
  exact lawG KX G.T.g G.T.b G.T.builtins G.T.nolimit hg hobj hints (Nat.le_trans hlen hn2) rm hF hb (fun H oH hS => hsp H a ns hlen oH hS)
/-- the law's def keeps its promise, whatever the module's heap -/
theorem law_at {P : Program} {w : World} {K : PySem.W.Frag} {mg : Str → Option Value} {h : Heap} {p : PI0} {Pg : Prog} {l0 n i : Nat} {fa : Addr} {d : DI} {x : Str} (hi : p.defs[i]? = some d) (hx : d.N.take d.params = [x]) (hp : d.params = 1) (c : SaysM p w K) (X : K.In h) (G : h.Ns mainGlobals mg) (hm : mg d.name = some (.ref fa)) (hb : AllL BindOk p.defs)
    (hc : ∀ (i : Nat) (d : DI), p.defs[i]? = some d → ∃ ms, Pg.defs[i]? = some ⟨d.params, d.N.length, ms⟩ ∧ cSs 300 (d.ct p) (defBody d.st) = some ms ∧ scopeB d.N d.params (defScope d.st) = true) (rep : RepOk (gsOf p K) Pg.repr l0) (repS : ∀ v M z, Pg.repr v M = some z → okS z) (hsub : Pg.sub = subP p) (hgx : Pg.eqx = p.gx)
    {m : Nat} (math : ∀ ns : List Int, ns.length ≤ m → ∃ M, call Pg n i [.frz (ns.map Val.int)] [] = .ok (.bl true) M) :
    ∃ (fd : FuncData) (sp : Sp), (∀ (s : Shared) (u : Value), BindsTo s fd ⟨[u], []⟩ [(x, u)]) ∧ (∀ (H : Hp) (a : Addr) (ns : List Int), ns.length ≤ m → Only H → SqL K H a (ns.map V.int) → sp [.ref a] H (fun v _ => v = .bl true) fun _ _ _ => False) ∧
      ∀ base : Heap, K.In base → base.Ns mainGlobals mg → FnG P w K mg base (n + l0) fa fd [x] sp := by
  obtain ⟨fd, F⟩ := c.fn hi
  have e := hm.symm.trans (c.glo X G hi)
  cases e
  refine ⟨fd, spI (gsOf p K) (call Pg n) i 1, fun s u => ?_, fun H a ns hl hO hS => ?_, fun base Xb Gb => ?_⟩
  · have z := FunD.bindsA F (AllL.at hb hi) s [u] (by rw [hx]; rfl)
    rw [hx] at z
    exact z
  · obtain ⟨M, e⟩ := math ns hl
    exact law_spec hS hO e
  · have z := all_ok (P := P) (w := w) (ground_of Xb Gb c hb hc rep repS hsub hgx) n i d hi _ fd d.name [] F
    rw [hx, hp] at z
    exact z
end Mi
namespace Mi
open PySem L2
theorem AllL.zip {α β : Type} {P : α × β → Prop} : ∀ {as : List α} {bs : List β} {i : Nat} {a : α}, AllL P (as.zip bs) → as.length = bs.length → as[i]? = some a → ∃ b, (as.zip bs)[i]? = some (a, b) ∧ P (a, b)
  | [], _, _, _, _, _, e => by simp at e
  | x :: xs, [], _, _, _, h, _ => by simp at h
  | x :: xs, y :: ys, 0, a, h, _, e => by
    have : x = a := by simpa using e
    subst this
    exact ⟨y, rfl, h.1⟩
  | x :: xs, y :: ys, i + 1, a, h, l, e => by
    obtain ⟨b, h1, h2⟩ := AllL.zip (as := xs) (bs := ys) (i := i) h.2 (by simpa using l) (by simpa using e)
    exact ⟨b, by simpa using h1, h2⟩
def defsOf (ds : List DI) (bs : List Ss) : List Def := (ds.zip bs).map fun q => ⟨q.1.params, q.1.N.length, q.2⟩
theorem comp_of {p : PI0} {bs : List Ss} {Pg : Prog} (e : Pg.defs = defsOf p.defs bs) (h : AllL (fun q : DI × Ss => cSs 300 (q.1.ct p) (defBody q.1.st) = some q.2 ∧ scopeB q.1.N q.1.params (defScope q.1.st) = true) (p.defs.zip bs)) (hl : p.defs.length = bs.length) (i : Nat) (d : DI) (hd : p.defs[i]? = some d) :
    ∃ ms, Pg.defs[i]? = some ⟨d.params, d.N.length, ms⟩ ∧ cSs 300 (d.ct p) (defBody d.st) = some ms ∧ scopeB d.N d.params (defScope d.st) = true := by
  obtain ⟨b, h1, h2⟩ := AllL.zip h hl hd
  refine ⟨b, ?_, h2⟩
  rw [e]
  unfold defsOf
  rw [List.getElem?_map, h1]
  rfl
end Mi
end MiEndS

section MiSimpS
set_option Elab.async false
set_option linter.all false
set_option maxRecDepth 100000
/-! the small language's runs as rewriting -/
namespace Mi
section
variable {cf : Cf} {σ : St} {M : Store}
@[simp] theorem s_var (i : Nat) : ev cf (.var i) σ M = match σ[i]? with | some (some v) => .ok v M | _ => .bad := by rw [ev] <;> rfl
@[simp] theorem s_cst (v : Val) : ev cf (.cst v) σ M = .ok v M := by rw [ev]
@[simp] theorem s_op (o : Op2) (a b : E) : ev cf (.op o a b) σ M = (ev cf a σ M).bind fun x M1 => (ev cf b σ M1).bind fun y M2 => op2 o x y M2 := by rw [ev]
@[simp] theorem s_cmp (o : Cmp) (a b : E) : ev cf (.cmp o a b) σ M = (ev cf a σ M).bind fun x M1 => (ev cf b σ M1).bind fun y M2 => ofOpt ((cmpV o x y M2).map .bl) M2 := by rw [ev]
@[simp] theorem s_chain (o p : Cmp) (a b c : E) : ev cf (.chain o p a b c) σ M = (ev cf a σ M).bind fun x M1 => (ev cf b σ M1).bind fun y M2 => (ofOpt (cmpV o x y M2) M2).bind fun k M3 => if k then (ev cf c σ M3).bind fun z M4 => ofOpt ((cmpV p y z M4).map .bl) M4 else .ok (.bl false) M3 := by rw [ev]
@[simp] theorem s_neg (a : E) : ev cf (.neg a) σ M = (ev cf a σ M).bind fun x M1 => match x with | .int i => .ok (.int (-i)) M1 | _ => .bad := by rw [ev] <;> rfl
@[simp] theorem s_not (a : E) : ev cf (.not a) σ M = (ev cf a σ M).bind fun x M1 => (ofOpt (truth M1 x) M1).bind fun k M2 => .ok (.bl (!k)) M2 := by rw [ev]
@[simp] theorem s_and (a b : E) : ev cf (.and a b) σ M = (ev cf a σ M).bind fun x M1 => (ofOpt (truth M1 x) M1).bind fun k M2 => if k then ev cf b σ M2 else .ok x M2 := by rw [ev]
@[simp] theorem s_or (a b : E) : ev cf (.or a b) σ M = (ev cf a σ M).bind fun x M1 => (ofOpt (truth M1 x) M1).bind fun k M2 => if k then .ok x M2 else ev cf b σ M2 := by rw [ev]
@[simp] theorem s_ite (c a b : E) : ev cf (.ite c a b) σ M = (ev cf c σ M).bind fun x M1 => (ofOpt (truth M1 x) M1).bind fun k M2 => if k then ev cf a σ M2 else ev cf b σ M2 := by rw [ev]
@[simp] theorem s_tup (es : Es) : ev cf (.tup es) σ M = (evs cf es σ M).bind fun xs M1 => if xs.length ≤ LIM then .ok (.tup xs) M1 else .bad := by rw [ev]
@[simp] theorem s_lst (l : L) : ev cf (.lst l) σ M = (evL cf l σ M).bind fun xs M1 => .ok (.ref M1.length) (M1 ++ [.lst xs]) := by rw [ev]
@[simp] theorem s_dic (kvs : Es) : ev cf (.dic kvs) σ M = (evs cf kvs σ M).bind fun xs M1 => if keysOk (pairUp xs) then .ok (.ref M1.length) (M1 ++ [.dic (pairUp xs)]) else .bad := by rw [ev]
@[simp] theorem s_ix (a i : E) : ev cf (.ix a i) σ M = (ev cf a σ M).bind fun x M1 => (ev cf i σ M1).bind fun y M2 => ofOpt (ixV x y M2) M2 := by rw [ev]
@[simp] theorem s_ixl (l : L) (i : E) : ev cf (.ixl l i) σ M = (evL cf l σ M).bind fun xs M1 => (ev cf i σ M1).bind fun y M2 => ofOpt ((asInt y).bind (itemAt xs)) M2 := by rw [ev]
@[simp] theorem s_sl (a : E) (lo hi : Eo) : ev cf (.sl a lo hi) σ M = (ev cf a σ M).bind fun x M1 => (evo cf lo σ M1).bind fun l M2 => (evo cf hi σ M2).bind fun h M3 => slV x l h M3 := by rw [ev]
@[simp] theorem s_isi (a : E) (c : Cl) : ev cf (.isi a c) σ M = (ev cf a σ M).bind fun x M1 => ofOpt ((isOf c x M1).map .bl) M1 := by rw [ev]
@[simp] theorem s_call (g : Nat) (es : Es) : ev cf (.call g es) σ M = (evs cf es σ M).bind fun xs M1 => cf.call g xs M1 := by rw [ev]
@[simp] theorem s_bi (b : Bi) (a : E) : ev cf (.bi b a) σ M = (ev cf a σ M).bind fun x M1 => bi1 cf b x M1 := by rw [ev]
@[simp] theorem s_bil (b : Bil) (l : L) : ev cf (.bil b l) σ M = (evL cf l σ M).bind fun xs M1 => bil1 b xs M1 := by rw [ev]
@[simp] theorem s_mt (m : Mt) (a : E) : ev cf (.mt m a) σ M = (ev cf a σ M).bind fun x M1 => mt1 m x M1 := by rw [ev]
@[simp] theorem s_newx (c : Nat) : ev cf (.newx c) σ M = .ok (.ref M.length) (M ++ [.exv c]) := by rw [ev]
@[simp] theorem ss_nil : evs cf .nil σ M = .ok [] M := by rw [evs]
@[simp] theorem ss_cons (e : E) (es : Es) : evs cf (.cons e es) σ M = (ev cf e σ M).bind fun x M1 => (evs cf es σ M1).bind fun xs M2 => .ok (x :: xs) M2 := by rw [evs]
@[simp] theorem so_none : evo cf .none σ M = .ok none M := by rw [evo]
@[simp] theorem so_some (e : E) : evo cf (.some e) σ M = (ev cf e σ M).bind fun x M1 => match x with | .int i => .ok (some i) M1 | _ => .bad := by rw [evo] <;> rfl
@[simp] theorem st_nil0 : evt cf .nil σ M = .ok true M := by rw [evt]
@[simp] theorem sl_disp (es : Es) : evL cf (.disp es) σ M = (evs cf es σ M).bind fun xs M1 => if xs.length ≤ LIM then .ok xs M1 else .bad := by rw [evL]
@[simp] theorem sS_seq (e : E) : evS cf (.seq e) σ M = (ev cf e σ M).bind fun x M1 => ofOpt (itemsOf M1 x) M1 := by rw [evS]
@[simp] theorem sS_rng (a : E) : evS cf (.rng a) σ M = (ev cf a σ M).bind fun x M1 => match x with | .int j => if decide (j < 2 ^ 62) && decide (-(2 ^ 62) ≤ j) then .ok ((List.range j.toNat).map fun i => .int (i : Nat), []) M1 else .bad | _ => .bad := by rw [evS] <;> rfl
@[simp] theorem x_set (i : Nat) (e : E) : ex cf (.set i e) σ M = Out.on (ev cf e σ M) σ fun v M1 => .nx (σ.set i (some v)) M1 := by rw [ex]
@[simp] theorem x_unp (is : List Nat) (e : E) : ex cf (.unp is e) σ M = Out.on (ev cf e σ M) σ fun v M1 => match put (.many is) v σ with | some σ1 => .nx σ1 M1 | none => .bad := by rw [ex] <;> rfl
@[simp] theorem x_par (i j : Nat) (a b : E) : ex cf (.par i j a b) σ M = Out.on (ev cf a σ M) σ fun x M1 => Out.on (ev cf b σ M1) σ fun y M2 => .nx ((σ.set i (some x)).set j (some y)) M2 := by rw [ex]
@[simp] theorem x_expr (e : E) : ex cf (.expr e) σ M = Out.on (ev cf e σ M) σ fun _ M1 => .nx σ M1 := by rw [ex]
@[simp] theorem x_ret (e : E) : ex cf (.ret e) σ M = Out.on (ev cf e σ M) σ fun v M1 => .ret v M1 := by rw [ex]
@[simp] theorem x_retN : ex cf .retN σ M = .ret .non M := by rw [ex]
@[simp] theorem x_ite (c : E) (a b : Ss) : ex cf (.ite c a b) σ M = Out.on (ev cf c σ M) σ fun x M1 => Out.on (ofOpt (truth M1 x) M1) σ fun k M2 => if k then exs cf a σ M2 else exs cf b σ M2 := by rw [ex]
@[simp] theorem x_pass : ex cf .pass σ M = .nx σ M := by rw [ex]
@[simp] theorem xs_nil : exs cf .nil σ M = .nx σ M := by rw [exs]
@[simp] theorem xs_cons (s : S) (ss : Ss) : exs cf (.cons s ss) σ M = (ex cf s σ M).seq fun σ1 M1 => exs cf ss σ1 M1 := by rw [exs]
@[simp] theorem ofOpt_some {α : Type} (a : α) : ofOpt (some a) M = .ok a M := rfl
end
theorem call_s (P : Prog) (n g : Nat) (vs : List Val) (M : Store) (d : Def) (hd : P.defs[g]? = some d) (hv : vs.length = d.params) : call P (n + 1) g vs M = back M (exs ⟨call P n, P.repr, P.eqx, P.sub⟩ d.body (start d vs) M) := by
  show (match P.defs[g]? with
    | some d => if vs.length = d.params then back M (exs ⟨call P n, P.repr, P.eqx, P.sub⟩ d.body (start d vs) M) else .bad
    | none => .bad) = _
  rw [hd]
  simp only [hv, if_true]
@[simp] theorem back_ret (M M' : Store) (v : Val) : back M (.ret v M') = .ok v M' := rfl
@[simp] theorem back_nx (M M' : Store) (τ : St) : back M (.nx τ M') = .ok .non M' := rfl
/-- a comprehension that changes nothing -/
theorem turns_pure {f : Val → Store → Res (Option Val)} {all : List Val} {g : Gd} {M : Store} (hs : still M all g) (p : Val → Val) : ∀ {xs : List Val}, (∀ x ∈ xs, f x M = .ok (some (p x)) M) → turns f all g xs M = .ok (xs.map p) M
  | [], _ => by unfold turns; rw [if_pos hs]; rfl
  | x :: xs, h => by
    unfold turns
    rw [if_pos hs, h x List.mem_cons_self]
    simp only [Res.calm_ok, Res.bind_ok]
    rw [turns_pure hs p fun y hy => h y (List.mem_cons_of_mem _ hy)]
    rfl
end Mi
namespace Mi
/-- a comprehension over what stays, whose turns change nothing -/
theorem comp_pure {cf : Cf} {σ : St} {M : Store} {own : List Nat} {i : Nat} {a e : E} {v : Val} {xs : List Val} (p : Val → Val) (ha : ev cf a σ M = .ok v M) (hx : itemsOf M v = some (xs, [])) (hl : xs.length ≤ LIM) (h : ∀ x ∈ xs, ev cf e ((wiped σ own).set i (some x)) M = .ok (p x) M) :
    evL cf (.comp own (.one i) (.seq a) .nil e) σ M = .ok (xs.map p) M := by
  rw [evL_comp, sS_seq, ha]
  simp only [Res.bind_ok, hx, ofOpt_some]
  rw [turns_pure (M := M) (g := []) True.intro p fun x hm => ?_]
  · simp [lcEnd, hl]
  · unfold lcTurn
    simp only [put, st_nil0, Res.bind_ok, if_true]
    rw [h x hm]
    rfl
theorem bools_map {xs : List Val} (p : Val → Bool) : boolsOf (xs.map fun x => .bl (p x)) = some (xs.map p) := by
  induction xs with
  | nil => rfl
  | cons x xs ih => simp [boolsOf, ih]
theorem all_pure {cf : Cf} {σ : St} {M : Store} {own : List Nat} {i : Nat} {a e : E} {v : Val} {xs : List Val} (p : Val → Bool) (ha : ev cf a σ M = .ok v M) (hx : itemsOf M v = some (xs, [])) (hl : xs.length ≤ LIM) (h : ∀ x ∈ xs, ev cf e ((wiped σ own).set i (some x)) M = .ok (.bl (p x)) M) :
    ev cf (.bil .all (.comp own (.one i) (.seq a) .nil e)) σ M = .ok (.bl (xs.all p)) M := by
  rw [s_bil, comp_pure (fun x => .bl (p x)) ha hx hl h]
  simp only [Res.bind_ok, bil1, bools_map, Option.map_some, ofOpt_some]
  rw [List.all_map]
  rfl
end Mi
namespace Mi
section
variable {cf : Cf} {σ : St} {M : Store}
@[simp] theorem x_six (o i v : E) : ex cf (.six o i v) σ M = Out.on (ev cf v σ M) σ fun z M1 => Out.on (ev cf o σ M1) σ fun x M2 => Out.on (ev cf i σ M2) σ fun y M3 => match x, y with
    | .ref n, y => match M3[n]? with
      | some (.lst xs) => (match y with
        | .int k => (match place xs.length k with
          | some j => .nx σ (M3.set n (.lst (xs.set j z)))
          | none => .bad)
        | _ => .bad)
      | some (.dic kvs) => if keyV y && decide (kvs.length < LIM) then .nx σ (M3.set n (.dic (dicPut kvs y z))) else .bad
      | _ => .bad
    | _, _ => .bad := by rw [ex] <;> rfl
@[simp] theorem x_par3 (i j k : Nat) (a b c : E) : ex cf (.par3 i j k a b c) σ M = Out.on (ev cf a σ M) σ fun x M1 => Out.on (ev cf b σ M1) σ fun y M2 => Out.on (ev cf c σ M2) σ fun z M3 => .nx (((σ.set i (some x)).set j (some y)).set k (some z)) M3 := by rw [ex]
@[simp] theorem s_callv (i : Nat) (es : Es) : ev cf (.callv i es) σ M = match σ[i]? with
    | some (some (.fn x)) => (match cf.eqx.fno x with
      | some g => (evs cf es σ M).bind fun xs M1 => cf.call g xs M1
      | none => .bad)
    | _ => .bad := by rw [ev] <;> rfl
@[simp] theorem s_tget (x : PySem.Str) (a : E) : ev cf (.tget x a) σ M = (ev cf a σ M).bind fun y M1 => ofOpt (tabGet cf.eqx x y) M1 := by rw [ev]
@[simp] theorem s_tin (g : Bool) (a : E) (x : PySem.Str) : ev cf (.tin g a x) σ M = (ev cf a σ M).bind fun y M1 => ofOpt ((tabIn cf.eqx x y).map fun k => .bl (if g then !k else k)) M1 := by rw [ev]
@[simp] theorem s_isis (a : E) (cs : List Cl) : ev cf (.isis a cs) σ M = (ev cf a σ M).bind fun x M1 => ofOpt ((isOfs cs x M1).map .bl) M1 := by rw [ev]
@[simp] theorem sl_rng2 (a b : E) : evL cf (.rng2 a b) σ M = (ev cf a σ M).bind fun x M1 => (ev cf b σ M1).bind fun y M2 => match x, y with
    | .int i, .int j => if rngOk i j then .ok (rngV i j) M2 else .bad
    | _, _ => .bad := by rw [evL] <;> rfl
@[simp] theorem sS_zip (a b : E) : evS cf (.zip a b) σ M = (ev cf a σ M).bind fun x M1 => (ev cf b σ M1).bind fun y M2 => match x, y with
    | .tup xs, .tup ys => .ok (zipV xs ys, []) M2
    | .ref m, .ref n => (match M2[m]?, M2[n]? with
      | some (.lst xs), some (.lst ys) => .ok (zipV xs ys, [(m, xs), (n, ys)]) M2
      | _, _ => .bad)
    | _, _ => .bad := by rw [evS] <;> rfl
@[simp] theorem sS_rng2 (a b : E) : evS cf (.rng2 a b) σ M = (ev cf a σ M).bind fun x M1 => (ev cf b σ M1).bind fun y M2 => match x, y with
    | .int i, .int j => if rngOk i j then .ok (rngV i j, []) M2 else .bad
    | _, _ => .bad := by rw [evS] <;> rfl
end
end Mi
namespace Mi
section
variable {cf : Cf} {σ : St} {M : Store}
@[simp] theorem s_inl (g : Bool) (a : E) (l : L) : ev cf (.inl g a l) σ M = (ev cf a σ M).bind fun x M1 => (evL cf l σ M1).bind fun xs M2 => ofOpt ((inl1 g x xs).map .bl) M2 := by rw [ev]
@[simp] theorem s_bin (b : Bn) (x y : E) : ev cf (.bin b x y) σ M = (ev cf x σ M).bind fun i M1 => (ev cf y σ M1).bind fun j M2 => bin1 b i j M2 := by rw [ev]
@[simp] theorem s_mtd (m : Md) (o : E) (es : Es) : ev cf (.mtd m o es) σ M = (ev cf o σ M).bind fun x M1 => if isLst M1 x then (evs cf es σ M1).bind fun xs M2 => mtd1 m x xs M2 else .bad := by rw [ev]
@[simp] theorem s_joinv (a e : E) : ev cf (.joinv a e) σ M = (ev cf a σ M).bind fun x M1 => match x with
    | .str sep => (ev cf e σ M1).bind fun v M2 => match v with
      | .ref n => match M2[n]? with
        | some (.lst xs) => match strsOf xs with
          | some zs => if (zs.map List.length).sum + zs.length * sep.length ≤ LIM then .ok (.str (joined sep zs)) M2 else .bad
          | none => .bad
        | _ => .bad
      | _ => .bad
    | _ => .bad := by rw [ev] <;> rfl
@[simp] theorem x_rais (c : Nat) : ex cf (.rais c) σ M = .exc ⟨c, none⟩ σ M := by rw [ex]
@[simp] theorem x_tri (b : Ss) (hs : Hs) : ex cf (.tri b hs) σ M = match exs cf b σ M with
    | .exc x σ1 M1 => hand cf hs x σ1 M1
    | r => r := by rw [ex] <;> rfl
@[simp] theorem h_nil (x : Exc) : hand cf .nil x σ M = .exc x σ M := by rw [hand]
@[simp] theorem h_cons (c : Nat) (b : Ss) (hs : Hs) (x : Exc) : hand cf (.cons c b hs) x σ M = if cf.sub x.cls c then (exs cf b σ M).calm else hand cf hs x σ M := by rw [hand]
end
end Mi
end MiSimpS

section MiLoopS
set_option Elab.async false
set_option linter.all false
set_option maxRecDepth 100000
/-! loops by what holds ahead of each turn -/
namespace Mi
theorem rounds_nil0 {f : Val → St → Store → Out} {all : List Val} {σ : St} {M : Store} : rounds f all [] [] σ M = .nx σ M := by unfold rounds; rw [if_pos (show still M all [] from True.intro)]
theorem rounds_cons0 {f : Val → St → Store → Out} {all : List Val} {x : Val} {xs : List Val} {σ : St} {M : Store} : rounds f all [] (x :: xs) σ M = (f x σ M).turn fun σ1 M1 => rounds f all [] xs σ1 M1 := by
  conv => lhs; unfold rounds
  rw [if_pos (show still M all [] from True.intro)]
theorem rounds_gen {f : Val → St → Store → Out} {all : List Val} (P : List Val → St → Store → Prop) (R : Out → Prop)
    (step : ∀ x xs σ M, P (x :: xs) σ M → (∃ σ' M', (f x σ M = .nx σ' M' ∨ f x σ M = .cnt σ' M') ∧ P xs σ' M') ∨ (∃ v M', f x σ M = .ret v M' ∧ R (.ret v M')) ∨ (∃ c σ' M', f x σ M = .exc c σ' M' ∧ R (.exc c σ' M')) ∨ ∃ σ' M', f x σ M = .brk σ' M' ∧ R (.nx σ' M'))
    (fin : ∀ σ M, P [] σ M → R (.nx σ M)) : ∀ xs σ M, P xs σ M → R (rounds f all [] xs σ M)
  | [], σ, M, h => by rw [rounds_nil0]; exact fin σ M h
  | x :: xs, σ, M, h => by
    rw [rounds_cons0]
    rcases step x xs σ M h with ⟨σ', M', e, p⟩ | ⟨v, M', e, p⟩ | ⟨c, σ', M', e, p⟩ | ⟨σ', M', e, p⟩
    · rcases e with e | e
      · rw [e, Out.turn_nx]; exact rounds_gen P R step fin xs σ' M' p
      · rw [e, Out.turn_cnt]; exact rounds_gen P R step fin xs σ' M' p
    · rw [e, Out.turn_ret]; exact p
    · rw [e, Out.turn_exc]; exact p
    · rw [e, Out.turn_brk]; exact p
/-- a loop that runs to its end -/
theorem rounds_on {f : Val → St → Store → Out} {all : List Val} (P : List Val → St → Store → Prop)
    (step : ∀ x xs σ M, P (x :: xs) σ M → ∃ σ' M', f x σ M = .nx σ' M' ∧ P xs σ' M') : ∀ xs σ M, P xs σ M → ∃ σ' M', rounds f all [] xs σ M = .nx σ' M' ∧ P [] σ' M'
  | [], σ, M, h => ⟨σ, M, rounds_nil0, h⟩
  | x :: xs, σ, M, h => by
    obtain ⟨σ1, M1, e, p⟩ := step x xs σ M h
    obtain ⟨σ2, M2, e2, p2⟩ := rounds_on (f := f) (all := all) P step xs σ1 M1 p
    exact ⟨σ2, M2, by rw [rounds_cons0, e, Out.turn_nx, e2], p2⟩
noncomputable def lpF (cf : Cf) (t : Tg) (b : Ss) : Val → St → Store → Out := fun x σ1 M2 => match put t x σ1 with
  | some σ2 => exs cf b σ2 M2
  | none => .bad
theorem lpF_one (cf : Cf) (i : Nat) (b : Ss) (x : Val) (σ : St) (M : Store) : lpF cf (.one i) b x σ M = exs cf b (σ.set i (some x)) M := rfl
theorem x_loop0 {cf : Cf} {σ : St} {M : Store} (t : Tg) (src : Src) (b : Ss) : ex cf (.loop t src b) σ M = Out.on (evS cf src σ M) σ fun p M1 => rounds (lpF cf t b) p.1 p.2 p.1 σ M1 := by
  rw [ex] <;> rfl
theorem rng_nat {cf : Cf} {a : E} {σ : St} {M M0 : Store} {n : Nat} (ha : ev cf a σ M = .ok (.int (n : Nat)) M0) (h : n ≤ 100000) : evS cf (.rng a) σ M = .ok ((List.range n).map fun i => .int (i : Nat), []) M0 := by
  obtain ⟨k, hk⟩ : ∃ k : Int, k = (n : Nat) := ⟨_, rfl⟩
  rw [← hk] at ha
  have e : k.toNat = n := by omega
  have h1 : 0 ≤ k := by omega
  have h2 : k ≤ 100000 := by omega
  clear hk
  subst e
  rw [sS_rng, ha]
  have h1 : (decide (k < 2 ^ 62) && decide (-(2 ^ 62) ≤ k)) = true := by
    rw [Bool.and_eq_true]
    exact ⟨decide_eq_true (by omega), decide_eq_true (by omega)⟩
  simp only [Res.bind_ok, h1, if_true]
/-- for i in range(n), run to its end -/
theorem x_rng {cf : Cf} {σ : St} {M M0 : Store} {i n : Nat} {a : E} {b : Ss} (ha : ev cf a σ M = .ok (.int (n : Nat)) M0) (hn : n ≤ 100000) (P : Nat → St → Store → Prop) (h0 : P 0 σ M0) (step : ∀ j σ M, j < n → P j σ M → ∃ σ' M', exs cf b (σ.set i (some (.int (j : Nat)))) M = .nx σ' M' ∧ P (j + 1) σ' M') :
    ∃ σ' M', ex cf (.loop (.one i) (.rng a) b) σ M = .nx σ' M' ∧ P n σ' M' := by
  rw [x_loop0, rng_nat ha hn, Out.on_ok]
  have key : ∀ d j σ M, j + d = n → P j σ M → ∃ σ' M', rounds (lpF cf (.one i) b) ((List.range n).map fun i => .int (i : Nat)) [] ((List.range' j d).map fun i => Val.int (i : Nat)) σ M = .nx σ' M' ∧ P n σ' M' := by
    intro d
    induction d with
    | zero => intro j σ M e p; exact ⟨σ, M, rounds_nil0, by have : j = n := by omega
                                                            rw [← this]; exact p⟩
    | succ d ih =>
      intro j σ M e p
      obtain ⟨σ1, M1, e1, p1⟩ := step j σ M (by omega) p
      obtain ⟨σ2, M2, e2, p2⟩ := ih (j + 1) σ1 M1 (by omega) p1
      refine ⟨σ2, M2, ?_, p2⟩
      rw [List.range'_succ, List.map_cons, rounds_cons0, lpF_one, e1, Out.turn_nx, e2]
  have := key n 0 σ M0 (by omega) h0
  rw [← List.range_eq_range'] at this
  exact this
end Mi
end MiLoopS

section MiStepS
set_option Elab.async false
set_option linter.all false
set_option maxRecDepth 100000
/-! runs step by step: nothing is compared that holds a body -/
namespace Mi
section
variable {cf : Cf} {σ : St} {M M1 M2 : Store}
theorem and_t {a b : E} (h : ev cf a σ M = .ok (.bl true) M1) : ev cf (.and a b) σ M = ev cf b σ M1 := by
  rw [s_and, h, Res.bind_ok, show truth M1 (.bl true) = some true from rfl, ofOpt_some, Res.bind_ok, if_pos rfl]
theorem and_f {a b : E} (h : ev cf a σ M = .ok (.bl false) M1) : ev cf (.and a b) σ M = .ok (.bl false) M1 := by
  rw [s_and, h, Res.bind_ok, show truth M1 (.bl false) = some false from rfl, ofOpt_some, Res.bind_ok, if_neg Bool.false_ne_true]
theorem or_t {a b : E} (h : ev cf a σ M = .ok (.bl true) M1) : ev cf (.or a b) σ M = .ok (.bl true) M1 := by
  rw [s_or, h, Res.bind_ok, show truth M1 (.bl true) = some true from rfl, ofOpt_some, Res.bind_ok, if_pos rfl]
theorem or_f {a b : E} (h : ev cf a σ M = .ok (.bl false) M1) : ev cf (.or a b) σ M = ev cf b σ M1 := by
  rw [s_or, h, Res.bind_ok, show truth M1 (.bl false) = some false from rfl, ofOpt_some, Res.bind_ok, if_neg Bool.false_ne_true]
theorem not_s {a : E} {k : Bool} (h : ev cf a σ M = .ok (.bl k) M1) : ev cf (.not a) σ M = .ok (.bl (!k)) M1 := by
  rw [s_not, h, Res.bind_ok, show truth M1 (.bl k) = some k from rfl, ofOpt_some, Res.bind_ok]
theorem ite_t {c : E} {a b : Ss} (h : ev cf c σ M = .ok (.bl true) M1) : ex cf (.ite c a b) σ M = exs cf a σ M1 := by
  rw [x_ite, h, Out.on_ok, show truth M1 (.bl true) = some true from rfl, ofOpt_some, Out.on_ok, if_pos rfl]
theorem ite_f {c : E} {a b : Ss} (h : ev cf c σ M = .ok (.bl false) M1) : ex cf (.ite c a b) σ M = exs cf b σ M1 := by
  rw [x_ite, h, Out.on_ok, show truth M1 (.bl false) = some false from rfl, ofOpt_some, Out.on_ok, if_neg Bool.false_ne_true]
theorem eite_t {c a b : E} (h : ev cf c σ M = .ok (.bl true) M1) : ev cf (.ite c a b) σ M = ev cf a σ M1 := by
  rw [s_ite, h, Res.bind_ok, show truth M1 (.bl true) = some true from rfl, ofOpt_some, Res.bind_ok, if_pos rfl]
theorem eite_f {c a b : E} (h : ev cf c σ M = .ok (.bl false) M1) : ev cf (.ite c a b) σ M = ev cf b σ M1 := by
  rw [s_ite, h, Res.bind_ok, show truth M1 (.bl false) = some false from rfl, ofOpt_some, Res.bind_ok, if_neg Bool.false_ne_true]
theorem ret_s {e : E} {v : Val} (h : ev cf e σ M = .ok v M1) : ex cf (.ret e) σ M = .ret v M1 := by rw [x_ret, h, Out.on_ok]
theorem set_s {i : Nat} {e : E} {v : Val} (h : ev cf e σ M = .ok v M1) : ex cf (.set i e) σ M = .nx (σ.set i (some v)) M1 := by rw [x_set, h, Out.on_ok]
theorem expr_s {e : E} {v : Val} (h : ev cf e σ M = .ok v M1) : ex cf (.expr e) σ M = .nx σ M1 := by rw [x_expr, h, Out.on_ok]
theorem seq_nx {s : S} {ss : Ss} {σ1 : St} (h : ex cf s σ M = .nx σ1 M1) : exs cf (.cons s ss) σ M = exs cf ss σ1 M1 := by rw [xs_cons, h] <;> rfl
theorem seq_ret {s : S} {ss : Ss} {v : Val} (h : ex cf s σ M = .ret v M1) : exs cf (.cons s ss) σ M = .ret v M1 := by rw [xs_cons, h] <;> rfl
theorem call_1 {g : Nat} {a : E} {x : Val} (h : ev cf a σ M = .ok x M1) : ev cf (.call g (.cons a .nil)) σ M = cf.call g [x] M1 := by
  rw [s_call, ss_cons, h, Res.bind_ok, ss_nil, Res.bind_ok, Res.bind_ok]
theorem call_2 {g : Nat} {a b : E} {x y : Val} (h : ev cf a σ M = .ok x M1) (h2 : ev cf b σ M1 = .ok y M2) : ev cf (.call g (.cons a (.cons b .nil))) σ M = cf.call g [x, y] M2 := by
  rw [s_call, ss_cons, h, Res.bind_ok, ss_cons, h2, Res.bind_ok, ss_nil, Res.bind_ok, Res.bind_ok, Res.bind_ok]
theorem cmp_s {o : Cmp} {a b : E} {x y : Val} {k : Bool} (h : ev cf a σ M = .ok x M1) (h2 : ev cf b σ M1 = .ok y M2) (h3 : cmpV o x y M2 = some k) : ev cf (.cmp o a b) σ M = .ok (.bl k) M2 := by
  rw [s_cmp, h, Res.bind_ok, h2, Res.bind_ok, h3, Option.map_some, ofOpt_some]
theorem ix_s {a i : E} {x y v : Val} (h : ev cf a σ M = .ok x M1) (h2 : ev cf i σ M1 = .ok y M2) (h3 : ixV x y M2 = some v) : ev cf (.ix a i) σ M = .ok v M2 := by
  rw [s_ix, h, Res.bind_ok, h2, Res.bind_ok, h3, ofOpt_some]
theorem op_s {o : Op2} {a b : E} {x y v : Val} {M3 : Store} (h : ev cf a σ M = .ok x M1) (h2 : ev cf b σ M1 = .ok y M2) (h3 : op2 o x y M2 = .ok v M3) : ev cf (.op o a b) σ M = .ok v M3 := by
  rw [s_op, h, Res.bind_ok, h2, Res.bind_ok, h3]
theorem lst_s {l : L} {xs : List Val} (h : evL cf l σ M = .ok xs M1) : ev cf (.lst l) σ M = .ok (.ref M1.length) (M1 ++ [.lst xs]) := by
  rw [s_lst, h, Res.bind_ok]
theorem back_s {f : Out} {v : Val} (h : f = .ret v M1) : back M f = .ok v M1 := by rw [h, back_ret]
theorem disp_1 {a : E} {x : Val} (h : ev cf a σ M = .ok x M1) : evs cf (.cons a .nil) σ M = .ok [x] M1 := by
  rw [ss_cons, h, Res.bind_ok, ss_nil, Res.bind_ok]
theorem disp_c {a : E} {es : Es} {x : Val} {xs : List Val} (h : ev cf a σ M = .ok x M1) (h2 : evs cf es σ M1 = .ok xs M2) : evs cf (.cons a es) σ M = .ok (x :: xs) M2 := by
  rw [ss_cons, h, Res.bind_ok, h2, Res.bind_ok]
theorem tup_s {es : Es} {xs : List Val} (h : evs cf es σ M = .ok xs M1) (hl : xs.length ≤ 1000) : ev cf (.tup es) σ M = .ok (.tup xs) M1 := by
  rw [s_tup, h, Res.bind_ok, if_pos (by rw [lim_val]; omega)]
end
theorem eq_bl (a b : Bool) (M : Store) : cmpV .eq (.bl a) (.bl b) M = some (a == b) := by cases a <;> cases b <;> rfl
theorem ne_bl (a b : Bool) (M : Store) : cmpV .ne (.bl a) (.bl b) M = some (a != b) := by cases a <;> cases b <;> rfl
theorem eq_int (i j : Int) (M : Store) : cmpV .eq (.int i) (.int j) M = some (i == j) := rfl
theorem ne_int (i j : Int) (M : Store) : cmpV .ne (.int i) (.int j) M = some (!(i == j)) := rfl
theorem eq_str (s t : List Nat) (M : Store) : cmpV .eq (.str s) (.str t) M = some (s == t) := rfl
end Mi
end MiStepS

section K19DataS
set_option Elab.async false
set_option linter.all false
set_option maxRecDepth 100000
namespace K19
open PySem L2 Mi
def top (i : Nat) : Stmt := PySem.Challenge.pw_leasefiles_k19_whole_sheets_by_their_dee.main.body.getD i (.Pass ⟨0, 0, 0, 0⟩)
def dis0 : List DI := [
  ⟨"is_whole", top 11, ["thing"], 1⟩,
  ⟨"is_whole_from", top 12, ["thing", "least"], 2⟩,
  ⟨"is_client", top 15, ["thing"], 1⟩,
  ⟨"has_plain_signs", top 16, ["text"], 1⟩,
  ⟨"is_name", top 17, ["thing", "sign"], 1⟩,
  ⟨"is_text", top 18, ["thing"], 1⟩,
  ⟨"is_stamp", top 19, ["thing", "count", "client", "number"], 1⟩,
  ⟨"is_worded", top 25, ["thing"], 1⟩,
  ⟨"is_splice", top 26, ["at", "gone", "text"], 3⟩,
  ⟨"is_text_edit", top 27, ["thing", "word", "parts"], 1⟩,
  ⟨"is_edit", top 28, ["thing", "word", "parts"], 1⟩,
  ⟨"_law_pot", top 41, ["_law_script", "_law_cells", "_law_cell"], 1⟩,
  ⟨"_law_draw", top 42, ["_law_pot_here", "_law_many", "_law_number", "_law_cell", "_law_digit"], 2⟩,
  ⟨"_law_any", top 43, ["_law_pot_here", "_law_things"], 2⟩,
  ⟨"_law_is", top 45, ["_law_told", "_law_due", "_law_k"], 2⟩,
  ⟨"_law_signs", top 46, ["_law_pot_here", "_law_many", "_law_signs_here", "_law_k"], 2⟩,
  ⟨"_law_text", top 47, ["_law_pot_here"], 1⟩,
  ⟨"_law_name", top 48, ["_law_pot_here", "_law_many", "_law_k"], 1⟩,
  ⟨"_law_edit", top 53, ["_law_pot_here", "_law_some", "_law_name_here", "_law_client", "_law_number"], 1⟩,
  ⟨"is_count", top 13, ["thing"], 1⟩
]
def dis1 : List DI := [
  ⟨"is_number", top 14, ["thing"], 1⟩,
  ⟨"is_base", top 20, ["thing"], 1⟩,
  ⟨"is_text_or_none", top 21, ["thing"], 1⟩,
  ⟨"is_kind", top 22, ["thing"], 1⟩,
  ⟨"is_done_word", top 23, ["thing"], 1⟩,
  ⟨"is_talk", top 24, ["thing"], 1⟩,
  ⟨"is_part", top 30, ["thing", "part", "judge"], 2⟩,
  ⟨"has_form", top 31, ["thing", "form", "item", "part"], 2⟩,
  ⟨"bare_sheet", top 35, [], 0⟩,
  ⟨"is_sheet", top 36, ["thing", "boot", "number", "pending", "write"], 1⟩,
  ⟨"is_note", top 37, ["thing", "word", "parts"], 1⟩,
  ⟨"sheet_behind", top 38, ["sheet", "deed", "boot", "number", "pending"], 2⟩,
  ⟨"noted_behind", top 39, ["sheet", "deed"], 2⟩,
  ⟨"_law_account", top 54, ["_law_begin"], 1⟩,
  ⟨"_law_sheet_of", top 55, ["_law_account_here"], 1⟩,
  ⟨"_law_did", top 56, ["_law_pot_here", "_law_account_here", "_law_left", "_law_way", "_law_base", "_law_deed"], 2⟩,
  ⟨"law", top 57, ["_law_script", "_law_pot_here", "_law_sheet", "_law_account_here", "_law_turn", "_law_number", "_law_stands"], 1⟩
]
def dis : List DI := dis0 ++ dis1
def tab0 : List (Str × GI) := [
  ("is_whole", .fn 0 1),
  ("is_whole_from", .fn 1 2),
  ("is_client", .fn 2 1),
  ("has_plain_signs", .fn 3 1),
  ("is_name", .fn 4 1),
  ("is_text", .fn 5 1),
  ("is_stamp", .fn 6 1),
  ("is_worded", .fn 7 1),
  ("is_splice", .fn 8 3),
  ("is_text_edit", .fn 9 1),
  ("is_edit", .fn 10 1),
  ("_law_pot", .fn 11 1),
  ("_law_draw", .fn 12 2),
  ("_law_any", .fn 13 2),
  ("_law_is", .fn 14 2),
  ("_law_signs", .fn 15 2),
  ("_law_text", .fn 16 1),
  ("_law_name", .fn 17 1),
  ("_law_edit", .fn 18 1),
  ("is_count", .fn 19 1)
]
def tab1 : List (Str × GI) := [
  ("is_number", .fn 20 1),
  ("is_base", .fn 21 1),
  ("is_text_or_none", .fn 22 1),
  ("is_kind", .fn 23 1),
  ("is_done_word", .fn 24 1),
  ("is_talk", .fn 25 1),
  ("is_part", .fn 26 2),
  ("has_form", .fn 27 2),
  ("bare_sheet", .fn 28 0),
  ("is_sheet", .fn 29 1),
  ("is_note", .fn 30 1),
  ("sheet_behind", .fn 31 2),
  ("noted_behind", .fn 32 2),
  ("_law_account", .fn 33 1),
  ("_law_sheet_of", .fn 34 1),
  ("_law_did", .fn 35 2),
  ("law", .fn 36 1),
  ("LAST_CLIENT", .con (.int (9))),
  ("LONGEST_NAME", .con (.int (8))),
  ("LONGEST_TEXT", .con (.int (96)))
]
def tab2 : List (Str × GI) := [
  ("FIRST_STAMP", .con (.tup [(.int (0)), (.int (0)), (.int (0))])),
  ("KINDS", .con (.tup [(.str [114, 101, 97, 100]), (.str [119, 114, 105, 116, 101])])),
  ("DONE_WORDS", .con (.tup [(.str [97, 112, 112, 108, 105, 101, 100]), (.str [97, 115, 105, 100, 101]), (.str [117, 110, 102, 105, 116]), (.str [100, 114, 111, 112, 112, 101, 100])])),
  ("WRITE", .con (.tup [(.str [110, 117, 109, 98, 101, 114]), (.str [110, 97, 109, 101]), (.str [98, 97, 115, 101]), (.str [101, 100, 105, 116])])),
  ("NoSheet", .exc 0),
  ("NoNote", .exc 1),
  ("abs", .blt),
  ("int", .blt),
  ("len", .blt),
  ("list", .blt),
  ("range", .blt),
  ("all", .blt),
  ("isinstance", .blt),
  ("tuple", .blt),
  ("bool", .blt),
  ("str", .blt),
  ("zip", .blt),
  ("max", .blt),
  ("JUDGES", .tab),
  ("NOTE_FORMS", .tab)
]
def tab : List (Str × GI) := tab0 ++ tab1 ++ tab2
def tb0 : List (List Nat × Val) := [([99, 111, 117, 110, 116], (.fn "is_count")), ([110, 117, 109, 98, 101, 114], (.fn "is_number")), ([99, 108, 105, 101, 110, 116], (.fn "is_client")), ([110, 97, 109, 101], (.fn "is_name")), ([116, 101, 120, 116], (.fn "is_text_or_none")), ([115, 116, 97, 109, 112], (.fn "is_stamp")), ([98, 97, 115, 101], (.fn "is_base")), ([101, 100, 105, 116], (.fn "is_edit")), ([107, 105, 110, 100], (.fn "is_kind")), ([116, 97, 108, 107], (.fn "is_talk")), ([119, 111, 114, 100], (.fn "is_done_word"))]
def tb1 : List (List Nat × Val) := [([98, 111, 111, 116], (.tup [])), ([119, 114, 105, 116, 101], (.tup [(.str [110, 97, 109, 101]), (.str [98, 97, 115, 101]), (.str [101, 100, 105, 116])])), ([115, 101, 116, 116, 108, 101, 100], (.tup [(.str [110, 117, 109, 98, 101, 114])]))]
def tabs : List (Str × List (List Nat × Val)) := [("JUDGES", tb0), ("NOTE_FORMS", tb1)]
def pi : PI0 := ⟨dis, tab, ["NoSheet", "NoNote"], [("NoSheet", "NoSheet"), ("NoNote", "NoNote")], tabs⟩
end K19
end K19DataS

section K19CodeS
set_option Elab.async false
set_option linter.all false
set_option maxRecDepth 100000
namespace K19
open PySem L2 Mi
def b0 : Ss := (.cons (.ret (.and (.isi (.var 0) .int) (.not (.isi (.var 0) .bool)))) .nil)
def d0 : DI := ⟨"is_whole", top 11, ["thing"], 1⟩
def b1 : Ss := (.cons (.ret (.and (.call 0 (.cons (.var 0) .nil)) (.cmp .ge (.var 0) (.var 1)))) .nil)
def d1 : DI := ⟨"is_whole_from", top 12, ["thing", "least"], 2⟩
def b2 : Ss := (.cons (.ret (.and (.call 1 (.cons (.var 0) (.cons (.cst (.int 1)) .nil))) (.cmp .le (.var 0) (.cst (.int 9))))) .nil)
def d2 : DI := ⟨"is_client", top 15, ["thing"], 1⟩
def b3 : Ss := (.cons (.ret (.and (.mt .isascii (.var 0)) (.mt .isprintable (.var 0)))) .nil)
def d3 : DI := ⟨"has_plain_signs", top 16, ["text"], 1⟩
def b4 : Ss := (.cons (.ite (.or (.not (.isi (.var 0) .str)) (.not (.chain .le .le (.cst (.int 1)) (.bi .len (.var 0)) (.cst (.int 8))))) (.cons (.ret (.cst (.bl false))) .nil) .nil) (.cons (.ret (.bil .all (.comp [1] (.one 1) (.seq (.var 0)) .nil (.chain .le .le (.cst (.str [97])) (.var 1) (.cst (.str [122])))))) .nil))
def d4 : DI := ⟨"is_name", top 17, ["thing", "sign"], 1⟩
def b5 : Ss := (.cons (.ret (.and (.isi (.var 0) .str) (.and (.cmp .le (.bi .len (.var 0)) (.cst (.int 96))) (.call 3 (.cons (.var 0) .nil))))) .nil)
def d5 : DI := ⟨"is_text", top 18, ["thing"], 1⟩
def b6 : Ss := (.cons (.ite (.or (.not (.isi (.var 0) .tuple)) (.cmp .ne (.bi .len (.var 0)) (.cst (.int 3)))) (.cons (.ret (.cst (.bl false))) .nil) .nil) (.cons (.unp [1, 2, 3] (.var 0)) (.cons (.ite (.and (.call 1 (.cons (.var 1) (.cons (.cst (.int 1)) .nil))) (.and (.call 2 (.cons (.var 2) .nil)) (.call 1 (.cons (.var 3) (.cons (.cst (.int 1)) .nil))))) (.cons (.ret (.cst (.bl true))) .nil) .nil) (.cons (.ret (.and (.call 0 (.cons (.var 1) .nil)) (.and (.call 0 (.cons (.var 2) .nil)) (.and (.call 0 (.cons (.var 3) .nil)) (.cmp .eq (.var 0) (.cst (.tup [(.int 0), (.int 0), (.int 0)]))))))) .nil))))
def d6 : DI := ⟨"is_stamp", top 19, ["thing", "count", "client", "number"], 1⟩
def b7 : Ss := (.cons (.ret (.and (.isi (.var 0) .tuple) (.and (.cmp .gt (.bi .len (.var 0)) (.cst (.int 0))) (.isi (.ix (.var 0) (.cst (.int 0))) .str)))) .nil)
def d7 : DI := ⟨"is_worded", top 25, ["thing"], 1⟩
def b8 : Ss := (.cons (.ret (.and (.call 1 (.cons (.var 0) (.cons (.cst (.int 0)) .nil))) (.and (.call 1 (.cons (.var 1) (.cons (.cst (.int 0)) .nil))) (.call 5 (.cons (.var 2) .nil))))) .nil)
def d8 : DI := ⟨"is_splice", top 26, ["at", "gone", "text"], 3⟩
def b9 : Ss := (.cons (.ite (.not (.call 7 (.cons (.var 0) .nil))) (.cons (.ret (.cst (.bl false))) .nil) .nil) (.cons (.par 1 2 (.ix (.var 0) (.cst (.int 0))) (.sl (.var 0) (.some (.cst (.int 1))) .none)) (.cons (.ite (.cmp .eq (.var 1) (.cst (.str [112, 117, 116]))) (.cons (.ret (.and (.cmp .eq (.bi .len (.var 2)) (.cst (.int 1))) (.call 5 (.cons (.ix (.var 2) (.cst (.int 0))) .nil)))) .nil) .nil) (.cons (.ite (.cmp .eq (.var 1) (.cst (.str [115, 112, 108, 105, 99, 101]))) (.cons (.ret (.and (.cmp .eq (.bi .len (.var 2)) (.cst (.int 3))) (.call 8 (.cons (.ix (.var 2) (.cst (.int 0))) (.cons (.ix (.var 2) (.cst (.int 1))) (.cons (.ix (.var 2) (.cst (.int 2))) .nil)))))) .nil) .nil) (.cons (.ret (.and (.cmp .eq (.var 1) (.cst (.str [114, 101, 109, 111, 118, 101]))) (.cmp .eq (.bi .len (.var 2)) (.cst (.int 0))))) .nil)))))
def d9 : DI := ⟨"is_text_edit", top 27, ["thing", "word", "parts"], 1⟩
def b10 : Ss := (.cons (.ite (.call 9 (.cons (.var 0) .nil)) (.cons (.ret (.cst (.bl true))) .nil) .nil) (.cons (.ite (.not (.call 7 (.cons (.var 0) .nil))) (.cons (.ret (.cst (.bl false))) .nil) .nil) (.cons (.par 1 2 (.ix (.var 0) (.cst (.int 0))) (.sl (.var 0) (.some (.cst (.int 1))) .none)) (.cons (.ite (.cmp .eq (.var 1) (.cst (.str [116, 97, 107, 101]))) (.cons (.ret (.and (.cmp .eq (.bi .len (.var 2)) (.cst (.int 1))) (.call 4 (.cons (.ix (.var 2) (.cst (.int 0))) .nil)))) .nil) .nil) (.cons (.ite (.or (.cmp .eq (.var 1) (.cst (.str [97, 100, 111, 112, 116]))) (.cmp .eq (.var 1) (.cst (.str [100, 114, 111, 112])))) (.cons (.ret (.and (.cmp .eq (.bi .len (.var 2)) (.cst (.int 2))) (.and (.call 2 (.cons (.ix (.var 2) (.cst (.int 0))) .nil)) (.call 1 (.cons (.ix (.var 2) (.cst (.int 1))) (.cons (.cst (.int 1)) .nil)))))) .nil) .nil) (.cons (.ret (.cst (.bl false))) .nil))))))
def d10 : DI := ⟨"is_edit", top 28, ["thing", "word", "parts"], 1⟩
def b11 : Ss := (.cons (.set 1 (.lst (.comp [2] (.one 2) (.seq (.sl (.var 0) .none (.some (.cst (.int 63))))) .nil (.bi .abs (.bi .int (.var 2)))))) (.cons (.ret (.lst (.disp (.cons (.var 1) (.cons (.cst (.int 0)) (.cons (.cst (.int 0)) (.cons (.op .add (.cst (.int 1)) (.bi .len (.var 1))) (.cons (.cst (.int 0)) .nil)))))))) .nil))
def d11 : DI := ⟨"_law_pot", top 41, ["_law_script", "_law_cells", "_law_cell"], 1⟩
def b12 : Ss := (.cons (.ite (.and (.cmp .eq (.ix (.var 0) (.cst (.int 2))) (.cst (.int 0))) (.cmp .lt (.ix (.var 0) (.cst (.int 1))) (.bi .len (.ix (.var 0) (.cst (.int 0)))))) (.cons (.set 3 (.ix (.ix (.var 0) (.cst (.int 0))) (.ix (.var 0) (.cst (.int 1))))) (.cons (.six (.var 0) (.cst (.int 1)) (.op .add (.ix (.var 0) (.cst (.int 1))) (.cst (.int 1)))) (.cons (.six (.var 0) (.cst (.int 3)) (.op .mod (.bi .int (.op .add (.op .add (.op .mul (.ix (.var 0) (.cst (.int 3))) (.cst (.int 69621))) (.var 3)) (.cst (.int 11)))) (.cst (.int 2147483629)))) (.cons (.ite (.cmp .ge (.var 3) (.op .pow (.cst (.int 10)) (.cst (.int 18)))) (.cons (.six (.var 0) (.cst (.int 2)) (.var 3)) .nil) .nil) .nil)))) .nil) (.cons (.ite (.cmp .gt (.ix (.var 0) (.cst (.int 2))) (.cst (.int 0))) (.cons (.set 4 (.op .mod (.bi .int (.ix (.var 0) (.cst (.int 2)))) (.var 1))) (.cons (.six (.var 0) (.cst (.int 2)) (.op .fdiv (.ix (.var 0) (.cst (.int 2))) (.var 1))) (.cons (.ret (.var 4)) .nil))) .nil) (.cons (.six (.var 0) (.cst (.int 4)) (.op .add (.ix (.var 0) (.cst (.int 4))) (.cst (.int 1)))) (.cons (.set 2 (.op .mod (.bi .int (.op .mul (.bi .int (.op .add (.ix (.var 0) (.cst (.int 3))) (.op .mul (.cst (.int 7919)) (.ix (.var 0) (.cst (.int 4)))))) (.cst (.int 48271)))) (.cst (.int 2147483647)))) (.cons (.set 2 (.op .mod (.bi .int (.op .mul (.var 2) (.op .add (.op .fdiv (.var 2) (.cst (.int 1009))) (.cst (.int 69621))))) (.cst (.int 2147483647)))) (.cons (.set 2 (.op .mod (.bi .int (.op .mul (.var 2) (.op .add (.op .fdiv (.var 2) (.cst (.int 2003))) (.cst (.int 40692))))) (.cst (.int 2147483399)))) (.cons (.ret (.op .mod (.bi .int (.op .fdiv (.var 2) (.cst (.int 16)))) (.var 1))) .nil)))))))
def d12 : DI := ⟨"_law_draw", top 42, ["_law_pot_here", "_law_many", "_law_number", "_law_cell", "_law_digit"], 2⟩
def b13 : Ss := (.cons (.ret (.ix (.var 1) (.call 12 (.cons (.var 0) (.cons (.bi .len (.var 1)) .nil))))) .nil)
def d13 : DI := ⟨"_law_any", top 43, ["_law_pot_here", "_law_things"], 2⟩
def b14 : Ss := (.cons (.ite (.isis (.var 1) [.tuple, .list]) (.cons (.ite (.or (.cmp .ne (.isi (.var 0) .tuple) (.isi (.var 1) .tuple)) (.cmp .ne (.isi (.var 0) .list) (.isi (.var 1) .list))) (.cons (.ret (.cst (.bl false))) .nil) .nil) (.cons (.ret (.and (.cmp .eq (.bi .len (.var 0)) (.bi .len (.var 1))) (.bil .all (.comp [2] (.one 2) (.rng (.bi .len (.var 1))) .nil (.call 14 (.cons (.ix (.var 0) (.var 2)) (.cons (.ix (.var 1) (.var 2)) .nil))))))) .nil)) .nil) (.cons (.ret (.and (.cmp .eq (.isi (.var 0) .bool) (.isi (.var 1) .bool)) (.cmp .eq (.var 0) (.var 1)))) .nil))
def d14 : DI := ⟨"_law_is", top 45, ["_law_told", "_law_due", "_law_k"], 2⟩
def b15 : Ss := (.cons (.set 2 (.cst (.str [32, 33, 34, 35, 36, 38, 39, 40, 41, 42, 43, 44, 45, 46, 47, 48, 49, 50, 51, 52, 53, 54, 55, 56, 57, 58, 59, 60, 61, 62, 63, 64, 65, 66, 67, 68, 69, 70, 71, 72, 73, 74, 75, 76, 77, 78, 79, 80, 81, 82, 83, 84, 85, 86, 87, 88, 89, 90, 91, 92, 93, 94, 95, 96, 97, 98, 99, 100, 101, 102, 103, 104, 105, 106, 107, 108, 109, 110, 111, 112, 113, 114, 115, 116, 117, 118, 119, 120, 121, 122, 123, 124, 125, 126]))) (.cons (.ret (.join (.cst (.str [])) (.comp [3] (.one 3) (.rng (.var 1)) .nil (.ix (.var 2) (.call 12 (.cons (.var 0) (.cons (.bi .len (.var 2)) .nil))))))) .nil))
def d15 : DI := ⟨"_law_signs", top 46, ["_law_pot_here", "_law_many", "_law_signs_here", "_law_k"], 2⟩
def b16 : Ss := (.cons (.ret (.call 15 (.cons (.var 0) (.cons (.call 13 (.cons (.var 0) (.cons (.lst (.disp (.cons (.cst (.int 0)) (.cons (.cst (.int 1)) (.cons (.cst (.int 2)) (.cons (.cst (.int 5)) (.cons (.cst (.int 9)) (.cons (.cst (.int 20)) (.cons (.cst (.int 20)) (.cons (.cst (.int 50)) (.cons (.cst (.int 96)) .nil))))))))))) .nil))) .nil)))) .nil)
def d16 : DI := ⟨"_law_text", top 47, ["_law_pot_here"], 1⟩
def b17 : Ss := (.cons (.set 1 (.call 13 (.cons (.var 0) (.cons (.lst (.disp (.cons (.cst (.int 1)) (.cons (.cst (.int 1)) (.cons (.cst (.int 1)) (.cons (.cst (.int 2)) (.cons (.cst (.int 3)) (.cons (.cst (.int 8)) .nil)))))))) .nil)))) (.cons (.ret (.join (.cst (.str [])) (.comp [2] (.one 2) (.rng (.var 1)) .nil (.ix (.cst (.str [97, 98, 99, 100, 101, 102, 103, 104, 105, 106, 107, 108, 109, 110, 111, 112, 113, 114, 115, 116, 117, 118, 119, 120, 121, 122])) (.call 12 (.cons (.var 0) (.cons (.cst (.int 26)) .nil))))))) .nil))
def d17 : DI := ⟨"_law_name", top 48, ["_law_pot_here", "_law_many", "_law_k"], 1⟩
def b18 : Ss := (.cons (.par3 2 3 4 (.call 17 (.cons (.var 0) .nil)) (.op .add (.cst (.int 1)) (.call 12 (.cons (.var 0) (.cons (.cst (.int 9)) .nil)))) (.op .add (.cst (.int 1)) (.call 12 (.cons (.var 0) (.cons (.cst (.int 99)) .nil))))) (.cons (.set 1 (.lst (.disp (.cons (.tup (.cons (.cst (.str [112, 117, 116])) (.cons (.call 16 (.cons (.var 0) .nil)) .nil))) (.cons (.tup (.cons (.cst (.str [115, 112, 108, 105, 99, 101])) (.cons (.call 12 (.cons (.var 0) (.cons (.cst (.int 97)) .nil))) (.cons (.call 12 (.cons (.var 0) (.cons (.cst (.int 97)) .nil))) (.cons (.call 16 (.cons (.var 0) .nil)) .nil))))) (.cons (.tup (.cons (.cst (.str [114, 101, 109, 111, 118, 101])) .nil)) .nil)))))) (.cons (.ret (.call 13 (.cons (.var 0) (.cons (.op .add (.var 1) (.lst (.disp (.cons (.tup (.cons (.cst (.str [116, 97, 107, 101])) (.cons (.var 2) .nil))) (.cons (.tup (.cons (.cst (.str [97, 100, 111, 112, 116])) (.cons (.var 3) (.cons (.var 4) .nil)))) (.cons (.tup (.cons (.cst (.str [100, 114, 111, 112])) (.cons (.var 3) (.cons (.var 4) .nil)))) .nil)))))) .nil)))) .nil)))
def d18 : DI := ⟨"_law_edit", top 53, ["_law_pot_here", "_law_some", "_law_name_here", "_law_client", "_law_number"], 1⟩
def b19 : Ss := (.cons (.ret (.call 1 (.cons (.var 0) (.cons (.cst (.int 0)) .nil)))) .nil)
def d19 : DI := ⟨"is_count", top 13, ["thing"], 1⟩
def b20 : Ss := (.cons (.ret (.call 1 (.cons (.var 0) (.cons (.cst (.int 1)) .nil)))) .nil)
def d20 : DI := ⟨"is_number", top 14, ["thing"], 1⟩
def b21 : Ss := (.cons (.ret (.or (.cmp .isN (.var 0) (.cst .non)) (.call 6 (.cons (.var 0) .nil)))) .nil)
def d21 : DI := ⟨"is_base", top 20, ["thing"], 1⟩
def b22 : Ss := (.cons (.ret (.or (.cmp .isN (.var 0) (.cst .non)) (.call 5 (.cons (.var 0) .nil)))) .nil)
def d22 : DI := ⟨"is_text_or_none", top 21, ["thing"], 1⟩
def b23 : Ss := (.cons (.ret (.and (.isi (.var 0) .str) (.cmp .inn (.var 0) (.cst (.tup [(.str [114, 101, 97, 100]), (.str [119, 114, 105, 116, 101])]))))) .nil)
def d23 : DI := ⟨"is_kind", top 22, ["thing"], 1⟩
def b24 : Ss := (.cons (.ret (.and (.isi (.var 0) .str) (.cmp .inn (.var 0) (.cst (.tup [(.str [97, 112, 112, 108, 105, 101, 100]), (.str [97, 115, 105, 100, 101]), (.str [117, 110, 102, 105, 116]), (.str [100, 114, 111, 112, 112, 101, 100])]))))) .nil)
def d24 : DI := ⟨"is_done_word", top 23, ["thing"], 1⟩
def b25 : Ss := (.cons (.ret (.and (.isi (.var 0) .tuple) (.and (.cmp .eq (.bi .len (.var 0)) (.cst (.int 2))) (.and (.call 19 (.cons (.ix (.var 0) (.cst (.int 0))) .nil)) (.call 19 (.cons (.ix (.var 0) (.cst (.int 1))) .nil)))))) .nil)
def d25 : DI := ⟨"is_talk", top 24, ["thing"], 1⟩
def b26 : Ss := (.cons (.set 2 (.tget "JUDGES" (.var 1))) (.cons (.ret (.callv 2 (.cons (.var 0) .nil))) .nil))
def d26 : DI := ⟨"is_part", top 30, ["thing", "part", "judge"], 2⟩
def b27 : Ss := (.cons (.ite (.or (.not (.isi (.var 0) .tuple)) (.cmp .ne (.bi .len (.var 0)) (.bi .len (.var 1)))) (.cons (.ret (.cst (.bl false))) .nil) .nil) (.cons (.ret (.bil .all (.comp [2, 3] (.many [2, 3]) (.zip (.var 0) (.var 1)) .nil (.call 26 (.cons (.var 2) (.cons (.var 3) .nil)))))) .nil))
def d27 : DI := ⟨"has_form", top 31, ["thing", "form", "item", "part"], 2⟩
def b28 : Ss := (.cons (.ret (.tup (.cons (.cst (.int 0)) (.cons (.cst (.int 0)) (.cons (.tup .nil) .nil))))) .nil)
def d28 : DI := ⟨"bare_sheet", top 35, [], 0⟩
def b29 : Ss := (.cons (.ite (.or (.not (.isi (.var 0) .tuple)) (.cmp .ne (.bi .len (.var 0)) (.cst (.int 3)))) (.cons (.ret (.cst (.bl false))) .nil) .nil) (.cons (.unp [1, 2, 3] (.var 0)) (.cons (.ite (.or (.not (.call 19 (.cons (.var 1) .nil))) (.or (.not (.call 19 (.cons (.var 2) .nil))) (.not (.isi (.var 3) .tuple)))) (.cons (.ret (.cst (.bl false))) .nil) .nil) (.cons (.ite (.not (.bil .all (.comp [4] (.one 4) (.seq (.var 3)) .nil (.call 27 (.cons (.var 4) (.cons (.cst (.tup [(.str [110, 117, 109, 98, 101, 114]), (.str [110, 97, 109, 101]), (.str [98, 97, 115, 101]), (.str [101, 100, 105, 116])])) .nil)))))) (.cons (.ret (.cst (.bl false))) .nil) .nil) (.cons (.ret (.cmp .eq (.lst (.comp [4] (.one 4) (.seq (.var 3)) .nil (.ix (.var 4) (.cst (.int 0))))) (.lst (.rng2 (.op .add (.op .sub (.var 2) (.bi .len (.var 3))) (.cst (.int 1))) (.op .add (.var 2) (.cst (.int 1))))))) .nil)))))
def d29 : DI := ⟨"is_sheet", top 36, ["thing", "boot", "number", "pending", "write"], 1⟩
def b30 : Ss := (.cons (.ite (.not (.call 7 (.cons (.var 0) .nil))) (.cons (.ret (.cst (.bl false))) .nil) .nil) (.cons (.par 1 2 (.ix (.var 0) (.cst (.int 0))) (.sl (.var 0) (.some (.cst (.int 1))) .none)) (.cons (.ite (.cmp .eq (.var 1) (.cst (.str [115, 116, 97, 110, 100]))) (.cons (.ret (.and (.cmp .eq (.bi .len (.var 2)) (.cst (.int 1))) (.call 29 (.cons (.ix (.var 2) (.cst (.int 0))) .nil)))) .nil) .nil) (.cons (.ret (.and (.tin false (.var 1) "NOTE_FORMS") (.call 27 (.cons (.var 2) (.cons (.tget "NOTE_FORMS" (.var 1)) .nil))))) .nil))))
def d30 : DI := ⟨"is_note", top 37, ["thing", "word", "parts"], 1⟩
def b31 : Ss := (.cons (.unp [2, 3, 4] (.var 0)) (.cons (.ite (.cmp .eq (.ix (.var 1) (.cst (.int 0))) (.cst (.str [98, 111, 111, 116]))) (.cons (.ret (.tup (.cons (.op .add (.var 2) (.cst (.int 1))) (.cons (.var 3) (.cons (.var 4) .nil))))) .nil) .nil) (.cons (.ite (.cmp .eq (.ix (.var 1) (.cst (.int 0))) (.cst (.str [119, 114, 105, 116, 101]))) (.cons (.ret (.tup (.cons (.var 2) (.cons (.op .add (.var 3) (.cst (.int 1))) (.cons (.op .add (.var 4) (.tup (.cons (.op .add (.tup (.cons (.op .add (.var 3) (.cst (.int 1))) .nil)) (.sl (.var 1) (.some (.cst (.int 1))) .none)) .nil))) .nil))))) .nil) .nil) (.cons (.ite (.cmp .eq (.ix (.var 1) (.cst (.int 0))) (.cst (.str [115, 116, 97, 110, 100]))) (.cons (.ret (.ix (.var 1) (.cst (.int 1)))) .nil) .nil) (.cons (.ite (.and (.cmp .gt (.bi .len (.var 4)) (.cst (.int 0))) (.cmp .eq (.ix (.ix (.var 4) (.cst (.int 0))) (.cst (.int 0))) (.ix (.var 1) (.cst (.int 1))))) (.cons (.set 4 (.sl (.var 4) (.some (.cst (.int 1))) .none)) .nil) .nil) (.cons (.ret (.tup (.cons (.var 2) (.cons (.var 3) (.cons (.var 4) .nil))))) .nil))))))
def d31 : DI := ⟨"sheet_behind", top 38, ["sheet", "deed", "boot", "number", "pending"], 2⟩
def b32 : Ss := (.cons (.ite (.not (.call 29 (.cons (.var 0) .nil))) (.cons (.rais 0) .nil) .nil) (.cons (.ite (.not (.call 30 (.cons (.var 1) .nil))) (.cons (.rais 1) .nil) .nil) (.cons (.ret (.call 31 (.cons (.var 0) (.cons (.var 1) .nil)))) .nil)))
def d32 : DI := ⟨"noted_behind", top 39, ["sheet", "deed"], 2⟩
def b33 : Ss := (.cons (.ret (.dic (.cons (.cst (.str [98, 111, 111, 116])) (.cons (.ix (.var 0) (.cst (.int 0))) (.cons (.cst (.str [102, 105, 114, 115, 116])) (.cons (.ix (.var 0) (.cst (.int 1))) (.cons (.cst (.str [119, 114, 105, 116, 116, 101, 110])) (.cons (.lst (.list (.ix (.var 0) (.cst (.int 2))))) (.cons (.cst (.str [103, 111, 110, 101])) (.cons (.cst (.int 0)) .nil)))))))))) .nil)
def d33 : DI := ⟨"_law_account", top 54, ["_law_begin"], 1⟩
def b34 : Ss := (.cons (.ret (.tup (.cons (.ix (.var 0) (.cst (.str [98, 111, 111, 116]))) (.cons (.ix (.var 0) (.cst (.str [102, 105, 114, 115, 116]))) (.cons (.bi .tuple (.sl (.ix (.var 0) (.cst (.str [119, 114, 105, 116, 116, 101, 110]))) (.some (.ix (.var 0) (.cst (.str [103, 111, 110, 101])))) .none)) .nil))))) .nil)
def d34 : DI := ⟨"_law_sheet_of", top 55, ["_law_account_here"], 1⟩
def b35 : Ss := (.cons (.set 2 (.sl (.ix (.var 1) (.cst (.str [119, 114, 105, 116, 116, 101, 110]))) (.some (.ix (.var 1) (.cst (.str [103, 111, 110, 101])))) .none)) (.cons (.set 3 (.call 12 (.cons (.var 0) (.cons (.cst (.int 12)) .nil)))) (.cons (.ite (.cmp .eq (.var 3) (.cst (.int 0))) (.cons (.six (.var 1) (.cst (.str [98, 111, 111, 116])) (.op .add (.ix (.var 1) (.cst (.str [98, 111, 111, 116]))) (.cst (.int 1)))) (.cons (.ret (.tup (.cons (.cst (.str [98, 111, 111, 116])) .nil))) .nil)) .nil) (.cons (.ite (.cmp .eq (.var 3) (.cst (.int 1))) (.cons (.ret (.tup (.cons (.cst (.str [115, 101, 116, 116, 108, 101, 100])) (.cons (.op .add (.bin .max (.cst (.int 1)) (.op .add (.ix (.var 1) (.cst (.str [102, 105, 114, 115, 116]))) (.call 13 (.cons (.var 0) (.cons (.lst (.disp (.cons (.neg (.cst (.int 3))) (.cons (.neg (.cst (.int 1))) (.cons (.cst (.int 1)) (.cons (.cst (.int 2)) .nil)))))) .nil))))) (.op .pow (.cst (.int 10)) (.cst (.int 6)))) .nil)))) .nil) .nil) (.cons (.ite (.and (.cmp .lt (.var 3) (.cst (.int 6))) (.cmp .ne (.var 2) (.lst (.disp .nil)))) (.cons (.six (.var 1) (.cst (.str [103, 111, 110, 101])) (.op .add (.ix (.var 1) (.cst (.str [103, 111, 110, 101]))) (.cst (.int 1)))) (.cons (.ret (.tup (.cons (.cst (.str [115, 101, 116, 116, 108, 101, 100])) (.cons (.ix (.ix (.var 2) (.cst (.int 0))) (.cst (.int 0))) .nil)))) .nil)) .nil) (.cons (.ite (.and (.cmp .eq (.var 3) (.cst (.int 6))) (.cmp .gt (.bi .len (.var 2)) (.cst (.int 1)))) (.cons (.ret (.tup (.cons (.cst (.str [115, 101, 116, 116, 108, 101, 100])) (.cons (.ix (.ix (.var 2) (.neg (.cst (.int 1)))) (.cst (.int 0))) .nil)))) .nil) .nil) (.cons (.set 4 (.call 13 (.cons (.var 0) (.cons (.lst (.disp (.cons (.cst .non) (.cons (.tup (.cons (.cst (.int 0)) (.cons (.cst (.int 0)) (.cons (.cst (.int 0)) .nil)))) (.cons (.tup (.cons (.op .add (.cst (.int 1)) (.call 12 (.cons (.var 0) (.cons (.cst (.int 9)) .nil)))) (.cons (.op .add (.cst (.int 1)) (.call 12 (.cons (.var 0) (.cons (.cst (.int 9)) .nil)))) (.cons (.op .add (.cst (.int 1)) (.call 12 (.cons (.var 0) (.cons (.cst (.int 9)) .nil)))) .nil)))) .nil))))) .nil)))) (.cons (.set 5 (.tup (.cons (.cst (.str [119, 114, 105, 116, 101])) (.cons (.call 17 (.cons (.var 0) .nil)) (.cons (.var 4) (.cons (.call 18 (.cons (.var 0) .nil)) .nil)))))) (.cons (.six (.var 1) (.cst (.str [102, 105, 114, 115, 116])) (.op .add (.ix (.var 1) (.cst (.str [102, 105, 114, 115, 116]))) (.cst (.int 1)))) (.cons (.expr (.mtd .append (.ix (.var 1) (.cst (.str [119, 114, 105, 116, 116, 101, 110]))) (.cons (.op .add (.tup (.cons (.ix (.var 1) (.cst (.str [102, 105, 114, 115, 116]))) .nil)) (.sl (.var 5) (.some (.cst (.int 1))) .none)) .nil))) (.cons (.ret (.var 5)) .nil)))))))))))
def d35 : DI := ⟨"_law_did", top 56, ["_law_pot_here", "_law_account_here", "_law_left", "_law_way", "_law_base", "_law_deed"], 2⟩
def b36 : Ss := (.cons (.set 1 (.call 11 (.cons (.var 0) .nil))) (.cons (.set 2 (.call 28 .nil)) (.cons (.set 3 (.call 33 (.cons (.var 2) .nil))) (.cons (.loop (.one 4) (.rng (.op .add (.cst (.int 10)) (.call 12 (.cons (.var 1) (.cons (.call 13 (.cons (.var 1) (.cons (.lst (.disp (.cons (.cst (.int 10)) (.cons (.cst (.int 40)) (.cons (.cst (.int 120)) .nil))))) .nil))) .nil))))) (.cons (.ite (.cmp .eq (.call 12 (.cons (.var 1) (.cons (.cst (.int 30)) .nil))) (.cst (.int 0))) (.cons (.set 5 (.call 12 (.cons (.var 1) (.cons (.op .pow (.cst (.int 10)) (.cst (.int 9))) .nil)))) (.cons (.set 6 (.tup (.cons (.call 12 (.cons (.var 1) (.cons (.cst (.int 50)) .nil))) (.cons (.op .add (.var 5) (.cst (.int 1))) (.cons (.tup (.cons (.tup (.cons (.op .add (.var 5) (.cst (.int 1))) (.cons (.cst (.str [97])) (.cons (.cst .non) (.cons (.tup (.cons (.cst (.str [112, 117, 116])) (.cons (.cst (.str [120])) .nil))) .nil))))) .nil)) .nil))))) (.cons (.par 2 3 (.call 32 (.cons (.var 2) (.cons (.tup (.cons (.cst (.str [115, 116, 97, 110, 100])) (.cons (.var 6) .nil))) .nil))) (.call 33 (.cons (.var 6) .nil))) .nil))) .nil) (.cons (.set 2 (.call 32 (.cons (.var 2) (.cons (.call 35 (.cons (.var 1) (.cons (.var 3) .nil))) .nil)))) (.cons (.ite (.or (.not (.call 14 (.cons (.var 2) (.cons (.call 34 (.cons (.var 3) .nil)) .nil)))) (.cmp .isNotN (.call 29 (.cons (.var 2) .nil)) (.cst (.bl true)))) (.cons (.ret (.cst (.bl false))) .nil) .nil) .nil)))) (.cons (.ret (.cst (.bl true))) .nil)))))
def d36 : DI := ⟨"law", top 57, ["_law_script", "_law_pot_here", "_law_sheet", "_law_account_here", "_law_turn", "_law_number", "_law_stands"], 1⟩
def bodies : List Ss := [b0, b1, b2, b3, b4, b5, b6, b7, b8, b9, b10, b11, b12, b13, b14, b15, b16, b17, b18, b19, b20, b21, b22, b23, b24, b25, b26, b27, b28, b29, b30, b31, b32, b33, b34, b35, b36]
abbrev CodeOk (q : DI × Ss) : Prop := cSs 300 (q.1.ct pi) (defBody q.1.st) = some q.2 ∧ scopeB q.1.N q.1.params (defScope q.1.st) = true
def fns : List Def := [⟨1, 1, b0⟩, ⟨2, 2, b1⟩, ⟨1, 1, b2⟩, ⟨1, 1, b3⟩, ⟨1, 2, b4⟩, ⟨1, 1, b5⟩, ⟨1, 4, b6⟩, ⟨1, 1, b7⟩, ⟨3, 3, b8⟩, ⟨1, 3, b9⟩, ⟨1, 3, b10⟩, ⟨1, 3, b11⟩, ⟨2, 5, b12⟩, ⟨2, 2, b13⟩, ⟨2, 3, b14⟩, ⟨2, 4, b15⟩, ⟨1, 1, b16⟩, ⟨1, 3, b17⟩, ⟨1, 5, b18⟩, ⟨1, 1, b19⟩, ⟨1, 1, b20⟩, ⟨1, 1, b21⟩, ⟨1, 1, b22⟩, ⟨1, 1, b23⟩, ⟨1, 1, b24⟩, ⟨1, 1, b25⟩, ⟨2, 3, b26⟩, ⟨2, 4, b27⟩, ⟨0, 0, b28⟩, ⟨1, 5, b29⟩, ⟨1, 3, b30⟩, ⟨2, 5, b31⟩, ⟨2, 2, b32⟩, ⟨1, 1, b33⟩, ⟨1, 1, b34⟩, ⟨2, 6, b35⟩, ⟨1, 7, b36⟩]
noncomputable def pg : Prog := ⟨fns, reprP (clsOf pi), pi.gx, subP pi⟩
theorem c0 : CodeOk (d0, b0) := ⟨by kernel_rfl, by kernel_rfl⟩
theorem n0 : BindOk d0 := fun _ _ _ _ _ _ us hl => match us, hl with | [_], _ => rfl
theorem c1 : CodeOk (d1, b1) := ⟨by kernel_rfl, by kernel_rfl⟩
theorem n1 : BindOk d1 := fun _ _ _ _ _ _ us hl => match us, hl with | [_, _], _ => rfl
theorem c2 : CodeOk (d2, b2) := ⟨by kernel_rfl, by kernel_rfl⟩
theorem n2 : BindOk d2 := fun _ _ _ _ _ _ us hl => match us, hl with | [_], _ => rfl
theorem c3 : CodeOk (d3, b3) := ⟨by kernel_rfl, by kernel_rfl⟩
theorem n3 : BindOk d3 := fun _ _ _ _ _ _ us hl => match us, hl with | [_], _ => rfl
theorem c4 : CodeOk (d4, b4) := ⟨by kernel_rfl, by kernel_rfl⟩
theorem n4 : BindOk d4 := fun _ _ _ _ _ _ us hl => match us, hl with | [_], _ => rfl
theorem c5 : CodeOk (d5, b5) := ⟨by kernel_rfl, by kernel_rfl⟩
theorem n5 : BindOk d5 := fun _ _ _ _ _ _ us hl => match us, hl with | [_], _ => rfl
theorem c6 : CodeOk (d6, b6) := ⟨by kernel_rfl, by kernel_rfl⟩
theorem n6 : BindOk d6 := fun _ _ _ _ _ _ us hl => match us, hl with | [_], _ => rfl
theorem c7 : CodeOk (d7, b7) := ⟨by kernel_rfl, by kernel_rfl⟩
theorem n7 : BindOk d7 := fun _ _ _ _ _ _ us hl => match us, hl with | [_], _ => rfl
theorem c8 : CodeOk (d8, b8) := ⟨by kernel_rfl, by kernel_rfl⟩
theorem n8 : BindOk d8 := fun _ _ _ _ _ _ us hl => match us, hl with | [_, _, _], _ => rfl
theorem c9 : CodeOk (d9, b9) := ⟨by kernel_rfl, by kernel_rfl⟩
theorem n9 : BindOk d9 := fun _ _ _ _ _ _ us hl => match us, hl with | [_], _ => rfl
theorem c10 : CodeOk (d10, b10) := ⟨by kernel_rfl, by kernel_rfl⟩
theorem n10 : BindOk d10 := fun _ _ _ _ _ _ us hl => match us, hl with | [_], _ => rfl
theorem c11 : CodeOk (d11, b11) := ⟨by kernel_rfl, by kernel_rfl⟩
theorem n11 : BindOk d11 := fun _ _ _ _ _ _ us hl => match us, hl with | [_], _ => rfl
theorem c12 : CodeOk (d12, b12) := ⟨by kernel_rfl, by kernel_rfl⟩
theorem n12 : BindOk d12 := fun _ _ _ _ _ _ us hl => match us, hl with | [_, _], _ => rfl
theorem c13 : CodeOk (d13, b13) := ⟨by kernel_rfl, by kernel_rfl⟩
theorem n13 : BindOk d13 := fun _ _ _ _ _ _ us hl => match us, hl with | [_, _], _ => rfl
theorem c14 : CodeOk (d14, b14) := ⟨by kernel_rfl, by kernel_rfl⟩
theorem n14 : BindOk d14 := fun _ _ _ _ _ _ us hl => match us, hl with | [_, _], _ => rfl
theorem c15 : CodeOk (d15, b15) := ⟨by kernel_rfl, by kernel_rfl⟩
theorem n15 : BindOk d15 := fun _ _ _ _ _ _ us hl => match us, hl with | [_, _], _ => rfl
theorem c16 : CodeOk (d16, b16) := ⟨by kernel_rfl, by kernel_rfl⟩
theorem n16 : BindOk d16 := fun _ _ _ _ _ _ us hl => match us, hl with | [_], _ => rfl
theorem c17 : CodeOk (d17, b17) := ⟨by kernel_rfl, by kernel_rfl⟩
theorem n17 : BindOk d17 := fun _ _ _ _ _ _ us hl => match us, hl with | [_], _ => rfl
theorem c18 : CodeOk (d18, b18) := ⟨by kernel_rfl, by kernel_rfl⟩
theorem n18 : BindOk d18 := fun _ _ _ _ _ _ us hl => match us, hl with | [_], _ => rfl
theorem c19 : CodeOk (d19, b19) := ⟨by kernel_rfl, by kernel_rfl⟩
theorem n19 : BindOk d19 := fun _ _ _ _ _ _ us hl => match us, hl with | [_], _ => rfl
theorem c20 : CodeOk (d20, b20) := ⟨by kernel_rfl, by kernel_rfl⟩
theorem n20 : BindOk d20 := fun _ _ _ _ _ _ us hl => match us, hl with | [_], _ => rfl
theorem c21 : CodeOk (d21, b21) := ⟨by kernel_rfl, by kernel_rfl⟩
theorem n21 : BindOk d21 := fun _ _ _ _ _ _ us hl => match us, hl with | [_], _ => rfl
theorem c22 : CodeOk (d22, b22) := ⟨by kernel_rfl, by kernel_rfl⟩
theorem n22 : BindOk d22 := fun _ _ _ _ _ _ us hl => match us, hl with | [_], _ => rfl
theorem c23 : CodeOk (d23, b23) := ⟨by kernel_rfl, by kernel_rfl⟩
theorem n23 : BindOk d23 := fun _ _ _ _ _ _ us hl => match us, hl with | [_], _ => rfl
theorem c24 : CodeOk (d24, b24) := ⟨by kernel_rfl, by kernel_rfl⟩
theorem n24 : BindOk d24 := fun _ _ _ _ _ _ us hl => match us, hl with | [_], _ => rfl
theorem c25 : CodeOk (d25, b25) := ⟨by kernel_rfl, by kernel_rfl⟩
theorem n25 : BindOk d25 := fun _ _ _ _ _ _ us hl => match us, hl with | [_], _ => rfl
theorem c26 : CodeOk (d26, b26) := ⟨by kernel_rfl, by kernel_rfl⟩
theorem n26 : BindOk d26 := fun _ _ _ _ _ _ us hl => match us, hl with | [_, _], _ => rfl
theorem c27 : CodeOk (d27, b27) := ⟨by kernel_rfl, by kernel_rfl⟩
theorem n27 : BindOk d27 := fun _ _ _ _ _ _ us hl => match us, hl with | [_, _], _ => rfl
theorem c28 : CodeOk (d28, b28) := ⟨by kernel_rfl, by kernel_rfl⟩
theorem n28 : BindOk d28 := fun _ _ _ _ _ _ us hl => match us, hl with | [], _ => rfl
theorem c29 : CodeOk (d29, b29) := ⟨by kernel_rfl, by kernel_rfl⟩
theorem n29 : BindOk d29 := fun _ _ _ _ _ _ us hl => match us, hl with | [_], _ => rfl
theorem c30 : CodeOk (d30, b30) := ⟨by kernel_rfl, by kernel_rfl⟩
theorem n30 : BindOk d30 := fun _ _ _ _ _ _ us hl => match us, hl with | [_], _ => rfl
theorem c31 : CodeOk (d31, b31) := ⟨by kernel_rfl, by kernel_rfl⟩
theorem n31 : BindOk d31 := fun _ _ _ _ _ _ us hl => match us, hl with | [_, _], _ => rfl
theorem c32 : CodeOk (d32, b32) := ⟨by kernel_rfl, by kernel_rfl⟩
theorem n32 : BindOk d32 := fun _ _ _ _ _ _ us hl => match us, hl with | [_, _], _ => rfl
theorem c33 : CodeOk (d33, b33) := ⟨by kernel_rfl, by kernel_rfl⟩
theorem n33 : BindOk d33 := fun _ _ _ _ _ _ us hl => match us, hl with | [_], _ => rfl
theorem c34 : CodeOk (d34, b34) := ⟨by kernel_rfl, by kernel_rfl⟩
theorem n34 : BindOk d34 := fun _ _ _ _ _ _ us hl => match us, hl with | [_], _ => rfl
theorem c35 : CodeOk (d35, b35) := ⟨by kernel_rfl, by kernel_rfl⟩
theorem n35 : BindOk d35 := fun _ _ _ _ _ _ us hl => match us, hl with | [_, _], _ => rfl
theorem c36 : CodeOk (d36, b36) := ⟨by kernel_rfl, by kernel_rfl⟩
theorem n36 : BindOk d36 := fun _ _ _ _ _ _ us hl => match us, hl with | [_], _ => rfl
theorem codes : AllL CodeOk (pi.defs.zip bodies) := ⟨c0, c1, c2, c3, c4, c5, c6, c7, c8, c9, c10, c11, c12, c13, c14, c15, c16, c17, c18, c19, c20, c21, c22, c23, c24, c25, c26, c27, c28, c29, c30, c31, c32, c33, c34, c35, c36, trivial⟩
theorem binds : AllL BindOk pi.defs := ⟨n0, n1, n2, n3, n4, n5, n6, n7, n8, n9, n10, n11, n12, n13, n14, n15, n16, n17, n18, n19, n20, n21, n22, n23, n24, n25, n26, n27, n28, n29, n30, n31, n32, n33, n34, n35, n36, trivial⟩
theorem same : pi.defs.length = bodies.length := rfl
theorem fns_eq : pg.defs = defsOf pi.defs bodies := rfl
end K19
end K19CodeS

section K19KAS
set_option Elab.async false
set_option linter.all false
set_option maxRecDepth 100000
namespace K19
open Mi
def inM (M : Store) : Val → Prop
  | .ref k => k < M.length
  | .fn _ => False
  | _ => True
theorem gotO {M : Store} {k : Nat} (h : inM M (.ref k)) : ∃ o, M[k]? = some o := ⟨_, List.getElem?_eq_getElem h⟩
def isW : Val → Bool
  | .int _ => true
  | _ => false
def isB : Val → Bool
  | .bl _ => true
  | _ => false
def isS : Val → Bool
  | .str _ => true
  | _ => false
def isT : Val → Bool
  | .tup _ => true
  | _ => false
theorem isOf_int {M : Store} {x : Val} (h : inM M x) : isOf .int x M = some (isW x || isB x) := by
  cases x with
  | ref k =>
    obtain ⟨o, ho⟩ := gotO h
    simp only [isOf, ho]
    cases o <;> rfl
  | fn x => exact h.elim
  | _ => rfl
theorem isOf_bool {M : Store} {x : Val} (h : inM M x) : isOf .bool x M = some (isB x) := by
  cases x with
  | ref k =>
    obtain ⟨o, ho⟩ := gotO h
    simp only [isOf, ho]
    cases o <;> rfl
  | fn x => exact h.elim
  | _ => rfl
theorem isOf_str {M : Store} {x : Val} (h : inM M x) : isOf .str x M = some (isS x) := by
  cases x with
  | ref k =>
    obtain ⟨o, ho⟩ := gotO h
    simp only [isOf, ho]
    cases o <;> rfl
  | fn x => exact h.elim
  | _ => rfl
theorem isOf_tuple {M : Store} {x : Val} (h : inM M x) : isOf .tuple x M = some (isT x) := by
  cases x with
  | ref k =>
    obtain ⟨o, ho⟩ := gotO h
    simp only [isOf, ho]
    cases o <;> rfl
  | fn x => exact h.elim
  | _ => rfl
theorem c_whole (n : Nat) (x : Val) (M : Store) (h : inM M x) : call pg (n + 1) 0 [x] M = .ok (.bl (isW x)) M := by
  rw [call_s pg n 0 [x] M ⟨1, 1, b0⟩ rfl rfl]
  simp [b0, start, isOf_int h, isOf_bool h, truth]
  cases x <;> simp [isW, isB]
def fromB (x : Val) (l : Int) : Bool := match x with
  | .int i => decide (l ≤ i)
  | _ => false
theorem c_from (n : Nat) (x : Val) (l : Int) (M : Store) (h : inM M x) : call pg (n + 2) 1 [x, .int l] M = .ok (.bl (fromB x l)) M := by
  rw [call_s pg (n + 1) 1 _ M ⟨2, 2, b1⟩ rfl rfl]
  simp [b1, start, c_whole n x M h, truth]
  cases x <;> simp [isW, fromB, cmpV]
def cliB (x : Val) : Bool := match x with
  | .int i => decide (1 ≤ i) && decide (i ≤ 9)
  | _ => false
theorem c_client (n : Nat) (x : Val) (M : Store) (h : inM M x) : call pg (n + 3) 2 [x] M = .ok (.bl (cliB x)) M := by
  rw [call_s pg (n + 2) 2 _ M ⟨1, 1, b2⟩ rfl rfl]
  simp [b2, start, c_from n x 1 M h, truth]
  cases x with
  | int i => by_cases hi : 1 ≤ i <;> simp [fromB, cliB, cmpV, hi]
  | _ => simp [fromB, cliB]
def plainB (s : List Nat) : Bool := s.all fun c => decide (32 ≤ c ∧ c ≤ 126)
theorem c_plain (n : Nat) (s : List Nat) (M : Store) : call pg (n + 1) 3 [.str s] M = .ok (.bl (plainB s)) M := by
  rw [call_s pg n 3 _ M ⟨1, 1, b3⟩ rfl rfl]
  simp [b3, start, truth, mt1, plainB]
def textB (x : Val) : Bool := match x with
  | .str s => decide ((s.length : Int) ≤ 96) && plainB s
  | _ => false
theorem c_text (n : Nat) (x : Val) (M : Store) (h : inM M x) : call pg (n + 2) 5 [x] M = .ok (.bl (textB x)) M := by
  rw [call_s pg (n + 1) 5 _ M ⟨1, 1, b5⟩ rfl rfl]
  simp [b5, start, isOf_str h, truth]
  cases x with
  | str s => by_cases hs : (s.length : Int) ≤ 96 <;> simp [isS, textB, bi1, lenV, cmpV, truth, c_plain, hs]
  | _ => simp [isS, textB]
def letterB (s : List Nat) : Bool := s.all fun c => decide (97 ≤ c ∧ c ≤ 122)
def short (x : Val) : Prop := match x with
  | .str s => s.length ≤ LIM
  | .tup xs => xs.length ≤ LIM
  | _ => True
def nameB0 (x : Val) : Bool := match x with
  | .str s => decide (1 ≤ (s.length : Int)) && decide ((s.length : Int) ≤ 8) && letterB s
  | _ => false
def sgn : Val → Nat
  | .str [c] => c
  | _ => 0
theorem all_signs (s : List Nat) (p : Nat → Bool) : ((s.map fun c => Val.str [c]).all fun x => p (sgn x)) = s.all p := by
  rw [List.all_map]; rfl
theorem le_sign (a c : Nat) : (!decide ([c] < [a])) = decide (a ≤ c) := by
  have : ([c] < [a]) ↔ c < a := by
    rw [List.cons_lt_cons_iff]
    constructor
    · rintro (h | ⟨_, h⟩)
      · exact h
      · cases h
    · exact .inl
  by_cases h : c < a
  · rw [decide_eq_true (this.mpr h), decide_eq_false (by omega)]; rfl
  · rw [decide_eq_false (fun z => h (this.mp z)), decide_eq_true (by omega)]; rfl
theorem c_name (n : Nat) (x : Val) (M : Store) (h : inM M x) : call pg (n + 1) 4 [x] M = .ok (.bl (nameB0 x)) M := by
  rw [call_s pg n 4 _ M ⟨1, 2, b4⟩ rfl rfl]
  cases x with
  | str s =>
    by_cases h1 : 1 ≤ (s.length : Int)
    · by_cases h2 : (s.length : Int) ≤ 8
      · have hl : (s.map fun c => Val.str [c]).length ≤ LIM := by rw [List.length_map, lim_val]; omega
        have key : ev ⟨call pg n, pg.repr, pg.eqx, pg.sub⟩ (.bil .all (.comp [1] (.one 1) (.seq (.var 0)) .nil (.chain .le .le (.cst (.str [97])) (.var 1) (.cst (.str [122]))))) [some (.str s), none] M = .ok (.bl (letterB s)) M := by
          rw [all_pure (fun x => decide (97 ≤ sgn x ∧ sgn x ≤ 122)) (v := .str s) (xs := s.map fun c => Val.str [c]) (by simp) rfl hl]
          · rw [all_signs s fun c => decide (97 ≤ c ∧ c ≤ 122)]; rfl
          · intro x hx
            obtain ⟨c, _, rfl⟩ := List.mem_map.mp hx
            simp only [s_chain, s_cst, s_var, wiped, List.set, List.getElem?_cons_zero, List.getElem?_cons_succ, Res.bind_ok, cmpV, le_sign, ofOpt_some, sgn]
            by_cases a : 97 ≤ c
            · simp [a, cmpV, le_sign]
            · simp [a]
        simp [-s_bil, b4, start, isOf_str h, isS, truth, bi1, lenV, cmpV, h1, h2, key, nameB0]
      · simp [b4, start, isOf_str h, isS, truth, bi1, lenV, cmpV, h1, h2, nameB0]
    · simp [b4, start, isOf_str h, isS, truth, bi1, lenV, cmpV, h1, nameB0]
  | _ => simp [b4, start, isOf_str h, isS, truth, nameB0]
end K19
end K19KAS

section K19KBS
set_option Elab.async false
set_option linter.all false
set_option maxRecDepth 100000
namespace K19
open Mi
/-- what is asked of a value: it and its items stand in the store -/
def wfT (M : Store) (x : Val) : Prop := inM M x ∧ ∀ xs, x = .tup xs → ∀ y ∈ xs, inM M y
def stampB (x : Val) : Bool := match x with
  | .tup [a, b, c] => (fromB a 1 && cliB b && fromB c 1) || (isW a && isW b && isW c && eqVs [a, b, c] [.int 0, .int 0, .int 0])
  | _ => false
theorem three {α : Type} {xs : List α} (h : (xs.length : Int) = 3) : ∃ a b c, xs = [a, b, c] := by
  have : xs.length = 3 := by omega
  match xs, this with
  | [a, b, c], _ => exact ⟨a, b, c, rfl⟩
theorem stampB_len {xs : List Val} (h : ¬ (xs.length : Int) = 3) : stampB (.tup xs) = false := by
  match xs, h with
  | [a, b, c], h => exact absurd rfl h
  | [], _ => rfl
  | [_], _ => rfl
  | [_, _], _ => rfl
  | _ :: _ :: _ :: _ :: _, _ => rfl
theorem isW_int {x : Val} (h : isW x = true) : ∃ i, x = .int i := by
  cases x <;> first | exact ⟨_, rfl⟩ | cases h
theorem c_stamp (n : Nat) (x : Val) (M : Store) (h : wfT M x) : call pg (n + 4) 6 [x] M = .ok (.bl (stampB x)) M := by
  rw [call_s pg (n + 3) 6 _ M ⟨1, 4, b6⟩ rfl rfl]
  cases x with
  | tup xs =>
    by_cases hl : (xs.length : Int) = 3
    · obtain ⟨a, b, c, rfl⟩ := three hl
      have ha : inM M a := h.2 _ rfl a (by simp)
      have hb : inM M b := h.2 _ rfl b (by simp)
      have hc : inM M c := h.2 _ rfl c (by simp)
      have k1 := c_from (n + 1) a 1 M ha
      have k2 := c_client n b M hb
      have k3 := c_from (n + 1) c 1 M hc
      have k4 := c_whole (n + 2) a M ha
      have k5 := c_whole (n + 2) b M hb
      have k6 := c_whole (n + 2) c M hc
      have e3 : (3 : Int) = 3 := rfl
      cases h0 : (fromB a 1 && (cliB b && fromB c 1)) with
      | true =>
        obtain ⟨h1, h2⟩ := and2 h0
        obtain ⟨h2, h3⟩ := and2 h2
        simp [b6, start, isOf_tuple h.1, isT, truth, bi1, lenV, cmpV, noRef, put, k1, k2, k3, h1, h2, h3, stampB, eqV, depth]
      | false =>
        have rest : ∀ σ : St, σ = [some (.tup [a, b, c]), some a, some b, some c] → ex ⟨call pg (n + 3), pg.repr, pg.eqx, pg.sub⟩ (.ret (.and (.call 0 (.cons (.var 1) .nil)) (.and (.call 0 (.cons (.var 2) .nil)) (.and (.call 0 (.cons (.var 3) .nil)) (.cmp .eq (.var 0) (.cst (.tup [(.int 0), (.int 0), (.int 0)]))))))) σ M = .ret (.bl (isW a && isW b && isW c && eqVs [a, b, c] [.int 0, .int 0, .int 0])) M := by
          intro σ e
          subst e
          cases wa : isW a with
          | false => simp [k4, wa, truth]
          | true =>
            cases wb : isW b with
            | false => simp [k4, k5, wa, wb, truth]
            | true =>
              cases wc : isW c with
              | false => simp [k4, k5, k6, wa, wb, wc, truth]
              | true =>
                obtain ⟨i, rfl⟩ := isW_int wa
                obtain ⟨j, rfl⟩ := isW_int wb
                obtain ⟨k, rfl⟩ := isW_int wc
                simp [k4, k5, k6, isW, truth, cmpV, noRef, noRefs, depth, depths, eqV]
        have fin : stampB (.tup [a, b, c]) = (isW a && isW b && isW c && eqVs [a, b, c] [.int 0, .int 0, .int 0]) := by
          unfold stampB
          rw [← Bool.and_assoc] at h0
          simp only [h0, Bool.false_or]
        rw [fin]
        have r := rest _ rfl
        cases h1 : fromB a 1 with
        | false => simp [-x_ret, b6, start, isOf_tuple h.1, isT, truth, bi1, lenV, cmpV, noRef, put, k1, h1, eqV, depth, r]
        | true =>
          cases h2 : cliB b with
          | false => simp [-x_ret, b6, start, isOf_tuple h.1, isT, truth, bi1, lenV, cmpV, noRef, put, k1, k2, h1, h2, eqV, depth, r]
          | true =>
            have h3 : fromB c 1 = false := by simpa [h1, h2] using h0
            simp [-x_ret, b6, start, isOf_tuple h.1, isT, truth, bi1, lenV, cmpV, noRef, put, k1, k2, k3, h1, h2, h3, eqV, depth, r]
    · have hl2 : ((xs.length : Int) == 3) = false := by simpa using hl
      simp [b6, start, isOf_tuple h.1, isT, truth, bi1, lenV, cmpV, noRef, eqV, depth, stampB_len hl, hl2]
  | _ => simp [b6, start, isOf_tuple h.1, isT, truth, stampB]
end K19
end K19KBS

section K19KCS
set_option Elab.async false
set_option linter.all false
set_option maxRecDepth 100000
namespace K19
open Mi
def one (f : Val → Bool) : List Val → Bool
  | [a] => f a
  | _ => false
def two (f : Val → Val → Bool) : List Val → Bool
  | [a, b] => f a b
  | _ => false
def thr (f : Val → Val → Val → Bool) : List Val → Bool
  | [a, b, c] => f a b c
  | _ => false
theorem one_no {f : Val → Bool} {r : List Val} (h : ((r.length : Int) == 1) = false) : one f r = false := by
  match r, h with
  | [], _ => rfl
  | _ :: _ :: _, _ => rfl
theorem one_yes {r : List Val} (h : ((r.length : Int) == 1) = true) : ∃ a, r = [a] := by
  have : r.length = 1 := by simp at h; omega
  match r, this with
  | [a], _ => exact ⟨a, rfl⟩
theorem two_no {f : Val → Val → Bool} {r : List Val} (h : ((r.length : Int) == 2) = false) : two f r = false := by
  match r, h with
  | [], _ => rfl
  | [_], _ => rfl
  | _ :: _ :: _ :: _, _ => rfl
theorem two_yes {r : List Val} (h : ((r.length : Int) == 2) = true) : ∃ a b, r = [a, b] := by
  have : r.length = 2 := by simp at h; omega
  match r, this with
  | [a, b], _ => exact ⟨a, b, rfl⟩
theorem thr_no {f : Val → Val → Val → Bool} {r : List Val} (h : ((r.length : Int) == 3) = false) : thr f r = false := by
  match r, h with
  | [], _ => rfl
  | [_], _ => rfl
  | [_, _], _ => rfl
  | _ :: _ :: _ :: _ :: _, _ => rfl
theorem thr_yes {r : List Val} (h : ((r.length : Int) == 3) = true) : ∃ a b c, r = [a, b, c] := by
  have : r.length = 3 := by simp at h; omega
  match r, this with
  | [a, b, c], _ => exact ⟨a, b, c, rfl⟩
theorem cut_tail (x : Val) (r : List Val) : cut (x :: r) (some 1) none = r := by
  have e : (min 1 (r.length + 1)) = 1 := by omega
  simp [cut, bound, e]
theorem first (x : Val) (r : List Val) : itemAt (x :: r) 0 = some x := by
  simp [itemAt, place]
def wordedB (x : Val) : Bool := match x with
  | .tup (.str _ :: _) => true
  | _ => false
theorem c_worded (n : Nat) (x : Val) (M : Store) (h : wfT M x) : call pg (n + 1) 7 [x] M = .ok (.bl (wordedB x)) M := by
  rw [call_s pg n 7 _ M ⟨1, 1, b7⟩ rfl rfl]
  cases x with
  | tup xs =>
    cases xs with
    | nil => simp [b7, start, isOf_tuple h.1, isT, truth, bi1, lenV, cmpV, wordedB]
    | cons y r =>
      have hy : inM M y := h.2 _ rfl y (by simp)
      have e : decide (0 < ((y :: r).length : Int)) = true := decide_eq_true (by simp)
      simp only [List.length_cons] at e
      simp [b7, start, isOf_tuple h.1, isT, truth, bi1, lenV, cmpV, ixV, first, isOf_str hy, e]
      have e2 : (0 : Int) < r.length + 1 := by omega
      cases y <;> simp [wordedB, isS, e2]
  | _ => simp [b7, start, isOf_tuple h.1, isT, truth, wordedB]
def spliceB (a b c : Val) : Bool := fromB a 0 && fromB b 0 && textB c
theorem c_splice (n : Nat) (a b c : Val) (M : Store) (ha : inM M a) (hb : inM M b) (hc : inM M c) : call pg (n + 3) 8 [a, b, c] M = .ok (.bl (spliceB a b c)) M := by
  rw [call_s pg (n + 2) 8 _ M ⟨3, 3, b8⟩ rfl rfl]
  simp [b8, start, c_from n a 0 M ha, c_from n b 0 M hb, c_text n c M hc, truth]
  cases h1 : fromB a 0 <;> cases h2 : fromB b 0 <;> simp [h1, h2, spliceB]
def wPut : List Nat := [112, 117, 116]
def wSplice : List Nat := [115, 112, 108, 105, 99, 101]
def wRemove : List Nat := [114, 101, 109, 111, 118, 101]
def wTake : List Nat := [116, 97, 107, 101]
def wAdopt : List Nat := [97, 100, 111, 112, 116]
def wDrop : List Nat := [100, 114, 111, 112]
def textEditB (x : Val) : Bool := match x with
  | .tup (.str w :: r) => if w == wPut then one textB r else if w == wSplice then thr spliceB r else w == wRemove && ((r.length : Int) == 0)
  | _ => false
theorem c_textEdit (n : Nat) (x : Val) (M : Store) (h : wfT M x) : call pg (n + 4) 9 [x] M = .ok (.bl (textEditB x)) M := by
  rw [call_s pg (n + 3) 9 _ M ⟨1, 3, b9⟩ rfl rfl]
  have k := c_worded (n + 2) x M h
  cases hw : wordedB x with
  | false =>
    have e : textEditB x = false := by
      unfold wordedB at hw
      unfold textEditB
      split at hw
      · cases hw
      · rfl
    simp [b9, start, k, hw, truth, e]
  | true =>
    obtain ⟨w, r, rfl⟩ : ∃ w r, x = .tup (.str w :: r) := by
      unfold wordedB at hw
      split at hw
      · exact ⟨_, _, rfl⟩
      · cases hw
    have hr : ∀ y ∈ r, inM M y := fun y hy => h.2 _ rfl y (List.mem_cons_of_mem _ hy)
    unfold textEditB
    simp only
    cases h1 : w == wPut with
    | true =>
      have e1 : w = [112, 117, 116] := by simpa [wPut] using h1
      subst e1
      cases h2 : ((r.length : Int) == 1) with
      | false =>
        rw [if_pos rfl, one_no h2]
        simp [b9, start, k, hw, truth, ixV, first, slV, cut_tail, cmpV, noRef, depth, eqV, h2, bi1, lenV]
      | true =>
        obtain ⟨a, rfl⟩ := one_yes h2
        rw [if_pos rfl]
        simp [b9, start, k, hw, truth, ixV, first, slV, cut_tail, cmpV, noRef, depth, eqV, bi1, lenV, one, c_text (n + 1) a M (hr a (by simp))]
    | false =>
      have e1 : ¬ w = [112, 117, 116] := by simpa [wPut] using h1
      rw [if_neg (by simp)]
      cases h3 : w == wSplice with
      | true =>
        have e2 : w = [115, 112, 108, 105, 99, 101] := by simpa [wSplice] using h3
        subst e2
        rw [if_pos rfl]
        cases h2 : ((r.length : Int) == 3) with
        | false =>
          rw [thr_no h2]
          simp [b9, start, k, hw, truth, ixV, first, slV, cut_tail, cmpV, noRef, depth, eqV, h2, bi1, lenV]
        | true =>
          obtain ⟨a, b, c, rfl⟩ := thr_yes h2
          have i1 : itemAt [a, b, c] 1 = some b := rfl
          have i2 : itemAt [a, b, c] 2 = some c := rfl
          simp [b9, start, k, hw, truth, ixV, first, slV, cut_tail, cmpV, noRef, depth, eqV, bi1, lenV, thr, i1, i2, c_splice n a b c M (hr a (by simp)) (hr b (by simp)) (hr c (by simp))]
      | false =>
        have e2 : ¬ w = [115, 112, 108, 105, 99, 101] := by simpa [wSplice] using h3
        rw [if_neg (by simp)]
        by_cases e3 : w = [114, 101, 109, 111, 118, 101]
        · subst e3
          simp [b9, start, k, hw, truth, ixV, first, slV, cut_tail, cmpV, noRef, depth, eqV, bi1, lenV, wRemove]
        · simp [b9, start, k, hw, truth, ixV, first, slV, cut_tail, cmpV, noRef, depth, eqV, bi1, lenV, wRemove, e1, e2, e3]
end K19
end K19KCS

section K19KDS
set_option Elab.async false
set_option linter.all false
set_option maxRecDepth 100000
namespace K19
open Mi
def editB (x : Val) : Bool := textEditB x || (match x with
  | .tup (.str w :: r) => if w == wTake then one nameB0 r else if w == wAdopt || w == wDrop then two (fun a b => cliB a && fromB b 1) r else false
  | _ => false)
theorem c_edit (n : Nat) (x : Val) (M : Store) (h : wfT M x) : call pg (n + 5) 10 [x] M = .ok (.bl (editB x)) M := by
  rw [call_s pg (n + 4) 10 _ M ⟨1, 3, b10⟩ rfl rfl]
  have k0 := c_textEdit n x M h
  have k := c_worded (n + 3) x M h
  cases ht : textEditB x with
  | true => simp [b10, start, k0, ht, truth, editB]
  | false =>
    cases hw : wordedB x with
    | false =>
      have e : editB x = false := by
        unfold wordedB at hw
        unfold editB
        rw [ht, Bool.false_or]
        cases x with
        | tup xs =>
          cases xs with
          | nil => rfl
          | cons y r => cases y <;> first | rfl | cases hw
        | _ => rfl
      simp [b10, start, k0, ht, k, hw, truth, e]
    | true =>
      obtain ⟨w, r, rfl⟩ : ∃ w r, x = .tup (.str w :: r) := by
        unfold wordedB at hw
        split at hw
        · exact ⟨_, _, rfl⟩
        · cases hw
      have hr : ∀ y ∈ r, inM M y := fun y hy => h.2 _ rfl y (List.mem_cons_of_mem _ hy)
      unfold editB
      rw [ht, Bool.false_or]
      simp only
      cases h1 : w == wTake with
      | true =>
        have e1 : w = [116, 97, 107, 101] := by simpa [wTake] using h1
        subst e1
        cases h2 : ((r.length : Int) == 1) with
        | false =>
          rw [if_pos rfl, one_no h2]
          simp [b10, start, k0, ht, k, hw, truth, ixV, first, slV, cut_tail, cmpV, noRef, depth, eqV, h2, bi1, lenV]
        | true =>
          obtain ⟨a, rfl⟩ := one_yes h2
          rw [if_pos rfl]
          simp [b10, start, k0, ht, k, hw, truth, ixV, first, slV, cut_tail, cmpV, noRef, depth, eqV, bi1, lenV, one, c_name (n + 3) a M (hr a (by simp))]
      | false =>
        have e1 : ¬ w = [116, 97, 107, 101] := by simpa [wTake] using h1
        rw [if_neg (by simp)]
        cases h3 : (w == wAdopt || w == wDrop) with
        | true =>
          rw [if_pos rfl]
          have e2 : w = [97, 100, 111, 112, 116] ∨ w = [100, 114, 111, 112] := by simpa [wAdopt, wDrop] using h3
          cases h2 : ((r.length : Int) == 2) with
          | false =>
            rw [two_no h2]
            rcases e2 with e2 | e2 <;> subst e2 <;> simp [b10, start, k0, ht, k, hw, truth, ixV, first, slV, cut_tail, cmpV, noRef, depth, eqV, h2, bi1, lenV]
          | true =>
            obtain ⟨a, b, rfl⟩ := two_yes h2
            have i1 : itemAt [a, b] 1 = some b := rfl
            have k2 := c_client (n + 1) a M (hr a (by simp))
            have k3 := c_from (n + 2) b 1 M (hr b (by simp))
            cases h4 : cliB a <;> rcases e2 with e2 | e2 <;> subst e2 <;> simp [b10, start, k0, ht, k, hw, truth, ixV, first, slV, cut_tail, cmpV, noRef, depth, eqV, bi1, lenV, two, i1, k2, k3, h4]
        | false =>
          have e2 : ¬ w = [97, 100, 111, 112, 116] ∧ ¬ w = [100, 114, 111, 112] := by simpa [wAdopt, wDrop] using h3
          rw [if_neg (by simp)]
          simp [b10, start, k0, ht, k, hw, truth, ixV, first, slV, cut_tail, cmpV, noRef, depth, eqV, bi1, lenV, e1, e2.1, e2.2]
/-! ### the law's own judges -/
end K19
end K19KDS

section K19PAS
set_option Elab.async false
set_option linter.all false
set_option maxRecDepth 100000
namespace K19
open Mi
theorem mulOk_r {i j : Int} (h : small j = true) : mulOk i j = true := by simp [mulOk, h]
theorem mulOk_l {i j : Int} (h : small i = true) : mulOk i j = true := by simp [mulOk, h]
theorem small_mod (i m : Int) (h : 0 < m) (h2 : m ≤ 2 ^ 64) : small (i % m) = true := by
  have h3 := Int.emod_nonneg i (by omega : m ≠ 0)
  have h4 := Int.emod_lt_of_pos i h
  unfold small
  exact decide_eq_true (by omega)
theorem op_mul {i j : Int} {M : Store} (h : mulOk i j = true) : op2 .mul (.int i) (.int j) M = .ok (.int (i * j)) M := by simp [op2, h]
theorem op_mod {i j : Int} {M : Store} (h : 0 < j) : op2 .mod (.int i) (.int j) M = .ok (.int (i % j)) M := by simp [op2, h]
theorem op_fdiv {i j : Int} {M : Store} (h : 0 < j) (h2 : mid j = true) : op2 .fdiv (.int i) (.int j) M = .ok (.int (i / j)) M := by simp [op2, h, h2]
theorem op_add {i j : Int} {M : Store} : op2 .add (.int i) (.int j) M = .ok (.int (i + j)) M := rfl
theorem op_sub {i j : Int} {M : Store} : op2 .sub (.int i) (.int j) M = .ok (.int (i - j)) M := rfl
theorem mid_of {j : Int} (h : j.natAbs < 2 ^ 64) : mid j = true := by
  unfold mid
  refine decide_eq_true (Nat.lt_trans h ?_)
  exact Nat.pow_lt_pow_right (by decide) (by decide)
theorem op_pow {i j : Int} {M : Store} (h : 0 ≤ j) (h2 : j ≤ 1000000) (h3 : small i = true) : op2 .pow (.int i) (.int j) M = .ok (.int (i ^ j.toNat)) M := by simp [op2, h, h2, h3]
/-- the pot: the slice, the cells, the pot itself -/
def potS (o : Obj) (ns : List Int) (a b c d : Int) (T : Store) : Store := o :: .lst (ns.map Val.int) :: .lst [.ref 1, .int a, .int b, .int c, .int d] :: T
theorem at_int (ns : List Int) (i : Int) (h0 : 0 ≤ i) (h1 : i < ns.length) : ∃ x, itemAt (ns.map Val.int) i = some (.int x) := by
  have h2 : i.toNat < ns.length := by omega
  refine ⟨ns[i.toNat], ?_⟩
  unfold itemAt place
  rw [if_pos h0, if_pos (by rw [List.length_map]; exact h1)]
  simp [h2]
theorem i5_0 (a b c d e : Val) : itemAt [a, b, c, d, e] 0 = some a := rfl
theorem i5_1 (a b c d e : Val) : itemAt [a, b, c, d, e] 1 = some b := rfl
theorem i5_2 (a b c d e : Val) : itemAt [a, b, c, d, e] 2 = some c := rfl
theorem i5_3 (a b c d e : Val) : itemAt [a, b, c, d, e] 3 = some d := rfl
theorem i5_4 (a b c d e : Val) : itemAt [a, b, c, d, e] 4 = some e := rfl
theorem p5_1 : place 5 1 = some 1 := rfl
theorem p5_2 : place 5 2 = some 2 := rfl
theorem p5_3 : place 5 3 = some 3 := rfl
theorem p5_4 : place 5 4 = some 4 := rfl
def drawEnd : Ss := match b12 with
  | .cons _ r => r
  | r => r
theorem drawEnd_run (n : Nat) (m : Int) (hm : 0 < m) (hm2 : m < 2 ^ 64) (o : Obj) (ns : List Int) (a b c d : Int) (T : Store) (x3 x4 x5 : Option Val) : ∃ r a' b' c' d', a' = a ∧ 0 ≤ r ∧ r < m ∧
    exs ⟨call pg n, pg.repr, pg.eqx, pg.sub⟩ drawEnd [some (.ref 2), some (.int m), x3, x4, x5] (potS o ns a b c d T) = .ret (.int r) (potS o ns a' b' c' d' T) := by
  have md : mid m = true := mid_of (by omega)
  have s1 : small 48271 = true := by decide
  have s2 : small 7919 = true := by decide
  have s3 : ∀ x : Int, small (x % 2147483647) = true := fun x => small_mod x _ (by decide) (by decide)
  have m1 : mid 1009 = true := mid_of (by decide)
  have m2 : mid 2003 = true := mid_of (by decide)
  have m3 : mid 16 = true := mid_of (by decide)
  by_cases hb : 0 < b
  · refine ⟨b % m, a, b / m, c, d, rfl, Int.emod_nonneg b (by omega), Int.emod_lt_of_pos b hm, ?_⟩
    simp [drawEnd, b12, potS, ixV, i5_2, cmpV, noRef, depth, eqV, truth, hb, p5_2, bi1, op_mod hm, op_fdiv hm md]
  · obtain ⟨r, hr⟩ : ∃ r : Int, r = ((((c + 7919 * (d + 1)) * 48271 % 2147483647) * (((c + 7919 * (d + 1)) * 48271 % 2147483647) / 1009 + 69621) % 2147483647) * (((((c + 7919 * (d + 1)) * 48271 % 2147483647) * (((c + 7919 * (d + 1)) * 48271 % 2147483647) / 1009 + 69621) % 2147483647)) / 2003 + 40692) % 2147483399) / 16 := ⟨_, rfl⟩
    refine ⟨r % m, a, b, c, d + 1, rfl, Int.emod_nonneg r (by omega), Int.emod_lt_of_pos r hm, ?_⟩
    simp [drawEnd, b12, potS, ixV, i5_2, i5_3, i5_4, cmpV, noRef, depth, eqV, truth, hb, p5_2, p5_3, p5_4, bi1, op_add, op_mul (mulOk_l s2), op_mul (mulOk_r s1), op_mod (j := 2147483647) (by decide), op_fdiv (j := 1009) (by decide) m1, op_mul (mulOk_l (s3 _)), op_fdiv (j := 2003) (by decide) m2, op_mod (j := 2147483399) (by decide), op_fdiv (j := 16) (by decide) m3, op_mod hm, hr]
theorem c_draw (n : Nat) (m : Int) (hm : 0 < m) (hm2 : m < 2 ^ 64) (o : Obj) (ns : List Int) (a b c d : Int) (T : Store) (ha : 0 ≤ a) : ∃ r a' b' c' d', 0 ≤ a' ∧ 0 ≤ r ∧ r < m ∧ call pg (n + 1) 12 [.ref 2, .int m] (potS o ns a b c d T) = .ok (.int r) (potS o ns a' b' c' d' T) := by
  rw [call_s pg n 12 _ _ ⟨2, 5, b12⟩ rfl rfl]
  have s1 : small 69621 = true := by decide
  have s3 : small 10 = true := by decide
  have hb12 : ∀ (cf : Cf) (σ : St) (M : Store), exs cf b12 σ M = (ex cf (match b12 with | .cons s _ => s | _ => .pass) σ M).seq fun σ1 M1 => exs cf drawEnd σ1 M1 := fun cf σ M => by
    show exs cf (.cons _ _) σ M = _
    rw [xs_cons] <;> rfl
  rw [hb12]
  show ∃ r a' b' c' d', _ ∧ _ ∧ _ ∧ back _ ((ex _ (match b12 with | .cons s _ => s | _ => .pass) [some (.ref 2), some (.int m), none, none, none] (potS o ns a b c d T)).seq _) = _
  by_cases h : b = 0 ∧ a < (ns.length : Int)
  · obtain ⟨rfl, h⟩ := h
    obtain ⟨x, hx⟩ := at_int ns a ha h
    by_cases h2 : (1000000000000000000 : Int) ≤ x
    · obtain ⟨r, a', b', c', d', e1, e2, e3, e4⟩ := drawEnd_run n m hm hm2 o ns (a + 1) x ((c * 69621 + x + 11) % 2147483629) d T none (some (.int x)) none
      refine ⟨r, a', b', c', d', by omega, e2, e3, ?_⟩
      simp only [potS] at e4
      simp [b12, potS, ixV, i5_0, i5_1, i5_2, i5_3, op_add, p5_1, p5_2, p5_3, bi1, lenV, cmpV, noRef, depth, eqV, truth, h, hx, op_mul (mulOk_r s1), op_mod (j := 2147483629) (by decide), op_pow (i := 10) (j := 18) (by decide) (by decide) s3, h2, e4]
    · obtain ⟨r, a', b', c', d', e1, e2, e3, e4⟩ := drawEnd_run n m hm hm2 o ns (a + 1) 0 ((c * 69621 + x + 11) % 2147483629) d T none (some (.int x)) none
      refine ⟨r, a', b', c', d', by omega, e2, e3, ?_⟩
      simp only [potS] at e4
      simp [b12, potS, ixV, i5_0, i5_1, i5_2, i5_3, op_add, p5_1, p5_2, p5_3, bi1, lenV, cmpV, noRef, depth, eqV, truth, h, hx, op_mul (mulOk_r s1), op_mod (j := 2147483629) (by decide), op_pow (i := 10) (j := 18) (by decide) (by decide) s3, h2, e4]
  · obtain ⟨r, a', b', c', d', e1, e2, e3, e4⟩ := drawEnd_run n m hm hm2 o ns a b c d T none none none
    refine ⟨r, a', b', c', d', by omega, e2, e3, ?_⟩
    simp only [potS] at e4
    by_cases h0 : b = 0
    · subst h0
      have h1 : ¬ a < (ns.length : Int) := fun z => h ⟨rfl, z⟩
      simp [b12, potS, ixV, i5_0, i5_1, i5_2, cmpV, noRef, depth, eqV, truth, bi1, lenV, h1, e4]
    · simp [b12, potS, ixV, i5_0, i5_1, i5_2, cmpV, noRef, depth, eqV, truth, bi1, lenV, h0, e4]
end K19
end K19PAS

section K19PBS
set_option Elab.async false
set_option linter.all false
set_option maxRecDepth 100000
namespace Mi
@[simp] theorem s_join {cf : Cf} {σ : St} {M : Store} (a : E) (l : L) : ev cf (.join a l) σ M = (ev cf a σ M).bind fun x M1 => match x with
    | .str sep => (evL cf l σ M1).bind fun xs M2 => match strsOf xs with
      | some zs => if (zs.map List.length).sum + zs.length * sep.length ≤ LIM then .ok (.str (joined sep zs)) M2 else .bad
      | none => .bad
    | _ => .bad := by rw [ev] <;> rfl
/-- a comprehension's turns that keep an invariant -/
theorem turns_gen {f : Val → Store → Res (Option Val)} {all : List Val} {I : Store → Prop} {R : Store → Store → Prop} {P : Store → Val → Prop} (rr : ∀ M, R M M) (rt : ∀ M M1 M2, R M M1 → R M1 M2 → R M M2) (pm : ∀ M M' y, R M M' → P M y → P M' y) :
    ∀ {xs : List Val} {M : Store}, (∀ x ∈ xs, ∀ M, I M → ∃ y M', f x M = .ok (some y) M' ∧ I M' ∧ R M M' ∧ P M' y) → I M → ∃ ys M', turns f all [] xs M = .ok ys M' ∧ I M' ∧ R M M' ∧ ys.length = xs.length ∧ ∀ y ∈ ys, P M' y
  | [], M, _, i => ⟨[], M, by unfold turns; rw [if_pos (show still M all [] from True.intro)], i, rr M, rfl, fun y hy => by cases hy⟩
  | x :: xs, M, h, i => by
    obtain ⟨y, M1, e1, i1, r1, p1⟩ := h x List.mem_cons_self M i
    obtain ⟨ys, M2, e2, i2, r2, l2, p2⟩ := turns_gen (f := f) (all := all) rr rt pm (fun z hz => h z (List.mem_cons_of_mem _ hz)) i1
    refine ⟨y :: ys, M2, ?_, i2, rt _ _ _ r1 r2, by simp [l2], fun z hz => ?_⟩
    · unfold turns
      rw [if_pos (show still M all [] from True.intro), e1]
      simp only [Res.calm_ok, Res.bind_ok, e2]
    · rcases List.mem_cons.mp hz with rfl | hz
      · exact pm _ _ _ r2 p1
      · exact p2 z hz
/-- [e for i in range(a)] -/
theorem comp_gen {cf : Cf} {σ : St} {M : Store} {own : List Nat} {i : Nat} {a e : E} {k : Int} {I : Store → Prop} {R : Store → Store → Prop} {P : Store → Val → Prop} (rr : ∀ M, R M M) (rt : ∀ M M1 M2, R M M1 → R M1 M2 → R M M2) (pm : ∀ M M' y, R M M' → P M y → P M' y) {M0 : Store} (ha : ev cf a σ M = .ok (.int k) M0) (hk : 0 ≤ k) (hk2 : k ≤ 1000)
    (h : ∀ (j : Int) (M : Store), I M → ∃ y M', ev cf e ((wiped σ own).set i (some (.int j))) M = .ok y M' ∧ I M' ∧ R M M' ∧ P M' y) (hi : I M0) : ∃ ys M', evL cf (.comp own (.one i) (.rng a) .nil e) σ M = .ok ys M' ∧ I M' ∧ R M0 M' ∧ (ys.length : Int) = k ∧ ∀ y ∈ ys, P M' y := by
  obtain ⟨ys, M', e1, i1, r1, l1, p1⟩ := turns_gen (f := lcTurn cf (.one i) .nil e (wiped σ own)) (all := (List.range k.toNat).map fun i => .int (i : Nat)) (xs := (List.range k.toNat).map fun i => .int (i : Nat)) (I := I) (R := R) (P := P) rr rt pm (fun x hx M i => by
    obtain ⟨j, _, rfl⟩ := List.mem_map.mp hx
    obtain ⟨y, M', e1, i1, r1, p1⟩ := h (j : Nat) M i
    refine ⟨y, M', ?_, i1, r1, p1⟩
    unfold lcTurn
    simp only [put, st_nil0, Res.bind_ok, if_true]
    rw [e1]
    rfl) hi
  have hl : (ys.length : Int) = k := by rw [l1, List.length_map, List.length_range]; omega
  refine ⟨ys, M', ?_, i1, r1, hl, p1⟩
  rw [evL_comp, sS_rng, ha]
  have h1 : (decide (k < 2 ^ 62) && decide (-(2 ^ 62) ≤ k)) = true := by
    rw [Bool.and_eq_true]
    exact ⟨decide_eq_true (by omega), decide_eq_true (by omega)⟩
  simp only [Res.bind_ok, h1, if_true, e1, lcEnd, List.nil_append]
  rw [if_pos (by rw [lim_val]; omega)]

end Mi
namespace K19
open Mi
def S1 (ns : List Int) (T M : Store) : Prop := ∃ o a b c d, 0 ≤ a ∧ M = potS o ns a b c d T
theorem S1.len {ns : List Int} {T M : Store} (h : S1 ns T M) : M.length = T.length + 3 := by
  obtain ⟨o, a, b, c, d, ha, rfl⟩ := h
  simp [potS]
theorem S1.push {ns : List Int} {T M : Store} (h : S1 ns T M) (X : Store) : S1 ns (T ++ X) (M ++ X) := by
  obtain ⟨o, a, b, c, d, ha, rfl⟩ := h
  exact ⟨o, a, b, c, d, ha, by simp [potS]⟩
theorem S1.get {ns : List Int} {T M : Store} (h : S1 ns T M) (k : Nat) : M[k + 3]? = T[k]? := by
  obtain ⟨o, a, b, c, d, ha, rfl⟩ := h
  simp [potS]
theorem S1.set {ns : List Int} {T M : Store} (h : S1 ns T M) (k : Nat) (ob : Obj) : S1 ns (T.set k ob) (M.set (k + 3) ob) := by
  obtain ⟨o, a, b, c, d, ha, rfl⟩ := h
  exact ⟨o, a, b, c, d, ha, by simp [potS]⟩
theorem draw (n : Nat) (m : Int) (hm : 0 < m) (hm2 : m < 2 ^ 64) {ns : List Int} {T M : Store} (h : S1 ns T M) : ∃ r M', 0 ≤ r ∧ r < m ∧ call pg (n + 1) 12 [.ref 2, .int m] M = .ok (.int r) M' ∧ S1 ns T M' := by
  obtain ⟨o, a, b, c, d, ha, rfl⟩ := h
  obtain ⟨r, a', b', c', d', h1, h2, h3, e⟩ := c_draw n m hm hm2 o ns a b c d T ha
  exact ⟨r, _, h2, h3, e, o, a', b', c', d', h1, rfl⟩
theorem at_in {α : Type} (xs : List α) (r : Int) (h0 : 0 ≤ r) (h1 : r < xs.length) : ∃ x, itemAt xs r = some x ∧ x ∈ xs := by
  have h2 : r.toNat < xs.length := by omega
  refine ⟨xs[r.toNat], ?_, List.getElem_mem h2⟩
  unfold itemAt place
  rw [if_pos h0, if_pos (by omega)]
  simp [h2]
/-- any of a list -/
theorem any (n : Nat) {ns : List Int} {T M : Store} {k : Nat} {xs : List Val} (h : S1 ns T M) (hk : T[k]? = some (.lst xs)) (h0 : 0 < xs.length) (h1 : (xs.length : Int) < 2 ^ 64) : ∃ x M', x ∈ xs ∧ call pg (n + 2) 13 [.ref 2, .ref (k + 3)] M = .ok x M' ∧ S1 ns T M' := by
  rw [call_s pg (n + 1) 13 _ _ ⟨2, 2, b13⟩ rfl rfl]
  obtain ⟨r, M', r0, r1, e, h'⟩ := draw n xs.length (by omega) h1 h
  obtain ⟨x, ex, hx⟩ := at_in xs r r0 r1
  refine ⟨x, M', hx, ?_, h'⟩
  have g1 : M[k + 3]? = some (.lst xs) := by rw [h.get, hk]
  have g2 : M'[k + 3]? = some (.lst xs) := by rw [h'.get, hk]
  simp [b13, start, bi1, lenV, g1, e, ixV, g2, ex]
/-- any of a display -/
theorem anyD (n : Nat) {ns : List Int} {T M : Store} (xs : List Val) (h : S1 ns T M) (h0 : 0 < xs.length) (h1 : (xs.length : Int) < 2 ^ 64) : ∃ x M', x ∈ xs ∧ call pg (n + 2) 13 [.ref 2, .ref M.length] (M ++ [.lst xs]) = .ok x M' ∧ S1 ns (T ++ [.lst xs]) M' := by
  rw [h.len]
  exact any n (h.push [.lst xs]) (by simp) h0 h1
def onec (Q : Nat → Prop) (y : Val) : Prop := ∃ c, y = .str [c] ∧ Q c
theorem strs_of {Q : Nat → Prop} : ∀ {ys : List Val}, (∀ y ∈ ys, onec Q y) → ∃ zs : List (List Nat), strsOf ys = some zs ∧ zs.length = ys.length ∧ (zs.map List.length).sum = ys.length ∧ (joined [] zs).length = ys.length ∧ ∀ c ∈ joined [] zs, Q c
  | [], _ => ⟨[], rfl, rfl, rfl, rfl, fun c hc => by cases hc⟩
  | y :: ys, h => by
    obtain ⟨c, rfl, hc⟩ := h y List.mem_cons_self
    obtain ⟨zs, e1, e2, e3, e4, e5⟩ := strs_of fun z hz => h z (List.mem_cons_of_mem _ hz)
    have ej : joined [] ([c] :: zs) = c :: joined [] zs := by
      cases zs <;> simp [joined]
    refine ⟨[c] :: zs, by simp [strsOf, e1], by simp [e2], by simp [e3]; omega, by rw [ej]; simp [e4], fun d hd => ?_⟩
    rw [ej] at hd
    rcases List.mem_cons.mp hd with rfl | hd
    · exact hc
    · exact e5 d hd
def signs : List Nat := [32, 33, 34, 35, 36, 38, 39, 40, 41, 42, 43, 44, 45, 46, 47, 48, 49, 50, 51, 52, 53, 54, 55, 56, 57, 58, 59, 60, 61, 62, 63, 64, 65, 66, 67, 68, 69, 70, 71, 72, 73, 74, 75, 76, 77, 78, 79, 80, 81, 82, 83, 84, 85, 86, 87, 88, 89, 90, 91, 92, 93, 94, 95, 96, 97, 98, 99, 100, 101, 102, 103, 104, 105, 106, 107, 108, 109, 110, 111, 112, 113, 114, 115, 116, 117, 118, 119, 120, 121, 122, 123, 124, 125, 126]
def plc (c : Nat) : Prop := 32 ≤ c ∧ c ≤ 126
def ltc (c : Nat) : Prop := 97 ≤ c ∧ c ≤ 122
theorem signs_at (r : Int) (h0 : 0 ≤ r) (h1 : r < 94) : ∃ c, itemAt signs r = some c ∧ plc c := by
  obtain ⟨c, e, hc⟩ := at_in signs r h0 (by show r < ((94 : Nat) : Int); omega)
  have : ∀ c ∈ signs, 32 ≤ c ∧ c ≤ 126 := by decide +kernel
  exact ⟨c, e, this c hc⟩
theorem strV (n : Nat) (k : Int) (hk : 0 ≤ k) (hk2 : k ≤ 1000) {ns : List Int} {T M : Store} (h : S1 ns T M) : ∃ s M', call pg (n + 2) 15 [.ref 2, .int k] M = .ok (.str s) M' ∧ S1 ns T M' ∧ (s.length : Int) = k ∧ ∀ c ∈ s, plc c := by
  rw [call_s pg (n + 1) 15 _ _ ⟨2, 4, b15⟩ rfl rfl]
  obtain ⟨ys, M', e1, i1, _, l1, p1⟩ := comp_gen (cf := ⟨call pg (n + 1), pg.repr, pg.eqx, pg.sub⟩) (σ := [some (.ref 2), some (.int k), some (.str signs), none]) (M := M) (own := [3]) (i := 3) (a := .var 1) (e := .ix (.var 2) (.call 12 (.cons (.var 0) (.cons (.bi .len (.var 2)) .nil)))) (k := k) (I := S1 ns T) (R := fun _ _ => True) (P := fun _ y => onec plc y) (fun _ => trivial) (fun _ _ _ _ _ => trivial) (fun _ _ _ _ p => p) (M0 := M) (by simp) (by omega) (by omega) (fun j M i => by
    obtain ⟨r, M', r0, r1, e, i'⟩ := draw n 94 (by decide) (by decide) i
    obtain ⟨c, ec, oc⟩ := signs_at r r0 r1
    have hl : ((signs.length : Nat) : Int) = 94 := rfl
    exact ⟨.str [c], M', by simp [wiped, bi1, lenV, hl, e, ixV, ec], i', trivial, c, rfl, oc⟩) h
  obtain ⟨zs, z1, z2, z3, z4, z5⟩ := strs_of p1
  refine ⟨joined [] zs, M', ?_, i1, by rw [z4]; exact l1, z5⟩
  have hlim : (zs.map List.length).sum + zs.length * ([] : List Nat).length ≤ LIM := by rw [z3, lim_val]; simp; omega
  simp only [signs] at e1
  simp at hlim
  simp [b15, start, e1, z1, hlim]
end K19
end K19PBS

section K19PCS
set_option Elab.async false
set_option linter.all false
set_option maxRecDepth 100000
namespace K19
open Mi
theorem textB_of {s : List Nat} (h1 : (s.length : Int) ≤ 96) (h2 : ∀ c ∈ s, plc c) : textB (.str s) = true := by
  simp only [textB, plainB, Bool.and_eq_true, decide_eq_true_eq, List.all_eq_true]
  exact ⟨h1, fun c hc => h2 c hc⟩
theorem text (n : Nat) {ns : List Int} {T M : Store} (h : S1 ns T M) : ∃ X s M', call pg (n + 3) 16 [.ref 2] M = .ok (.str s) M' ∧ S1 ns (T ++ X) M' ∧ textB (.str s) = true := by
  rw [call_s pg (n + 2) 16 _ _ ⟨1, 1, b16⟩ rfl rfl]
  obtain ⟨x, M1, hx, e1, h1⟩ := anyD n [.int 0, .int 1, .int 2, .int 5, .int 9, .int 20, .int 20, .int 50, .int 96] h (by decide) (by decide)
  have hk : ∃ k : Int, x = .int k ∧ 0 ≤ k ∧ k ≤ 96 := by
    simp only [List.mem_cons, List.not_mem_nil, or_false] at hx
    rcases hx with rfl | rfl | rfl | rfl | rfl | rfl | rfl | rfl | rfl <;> exact ⟨_, rfl, by decide, by decide⟩
  obtain ⟨k, rfl, k0, k1⟩ := hk
  obtain ⟨s, M2, e2, h2, l2, q2⟩ := strV n k k0 (by omega) h1
  refine ⟨_, s, M2, ?_, h2, textB_of (by omega) q2⟩
  have hlim : (9 : Nat) ≤ LIM := by rw [lim_val]; omega
  simp [b16, start, hlim, e1, e2]
def abc : List Nat := [97, 98, 99, 100, 101, 102, 103, 104, 105, 106, 107, 108, 109, 110, 111, 112, 113, 114, 115, 116, 117, 118, 119, 120, 121, 122]
theorem abc_at (r : Int) (h0 : 0 ≤ r) (h1 : r < 26) : ∃ c, itemAt abc r = some c ∧ ltc c := by
  obtain ⟨c, e, hc⟩ := at_in abc r h0 (by show r < ((26 : Nat) : Int); omega)
  have : ∀ c ∈ abc, 97 ≤ c ∧ c ≤ 122 := by decide +kernel
  exact ⟨c, e, this c hc⟩
theorem nameB_of {s : List Nat} (h0 : 1 ≤ (s.length : Int)) (h1 : (s.length : Int) ≤ 8) (h2 : ∀ c ∈ s, ltc c) : nameB0 (.str s) = true := by
  simp only [nameB0, letterB, Bool.and_eq_true, decide_eq_true_eq, List.all_eq_true]
  exact ⟨⟨h0, h1⟩, fun c hc => h2 c hc⟩
theorem name (n : Nat) {ns : List Int} {T M : Store} (h : S1 ns T M) : ∃ X s M', call pg (n + 3) 17 [.ref 2] M = .ok (.str s) M' ∧ S1 ns (T ++ X) M' ∧ nameB0 (.str s) = true := by
  rw [call_s pg (n + 2) 17 _ _ ⟨1, 3, b17⟩ rfl rfl]
  obtain ⟨x, M1, hx, e1, h1⟩ := anyD n [.int 1, .int 1, .int 1, .int 2, .int 3, .int 8] h (by decide) (by decide)
  have hk : ∃ k : Int, x = .int k ∧ 1 ≤ k ∧ k ≤ 8 := by
    simp only [List.mem_cons, List.not_mem_nil, or_false] at hx
    rcases hx with rfl | rfl | rfl | rfl | rfl | rfl <;> exact ⟨_, rfl, by decide, by decide⟩
  obtain ⟨k, rfl, k0, k1⟩ := hk
  obtain ⟨T1, hT1⟩ : ∃ T1, T1 = T ++ [Obj.lst [.int 1, .int 1, .int 1, .int 2, .int 3, .int 8]] := ⟨_, rfl⟩
  rw [← hT1] at h1
  obtain ⟨ys, M', e3, i3, _, l3, p3⟩ := comp_gen (cf := ⟨call pg (n + 2), pg.repr, pg.eqx, pg.sub⟩) (σ := [some (.ref 2), some (.int k), none]) (M := M1) (own := [2]) (i := 2) (a := .var 1) (e := .ix (.cst (.str abc)) (.call 12 (.cons (.var 0) (.cons (.cst (.int 26)) .nil)))) (k := k) (I := S1 ns T1) (R := fun _ _ => True) (P := fun _ y => onec ltc y) (fun _ => trivial) (fun _ _ _ _ _ => trivial) (fun _ _ _ _ p => p) (M0 := M1) (by simp) (by omega) (by omega) (fun j M i => by
    obtain ⟨r, M', r0, r1, e, i'⟩ := draw (n + 1) 26 (by decide) (by decide) i
    obtain ⟨c, ec, oc⟩ := abc_at r r0 r1
    exact ⟨.str [c], M', by simp [wiped, e, ixV, ec], i', trivial, c, rfl, oc⟩) h1
  obtain ⟨zs, z1, z2, z3, z4, z5⟩ := strs_of p3
  subst hT1
  refine ⟨_, joined [] zs, M', ?_, i3, nameB_of (by rw [z4]; omega) (by rw [z4]; omega) z5⟩
  have hlim : (zs.map List.length).sum ≤ LIM := by rw [z3, lim_val]; omega
  have hlim2 : (6 : Nat) ≤ LIM := by rw [lim_val]; omega
  simp only [abc] at e3
  simp [b17, start, hlim2, e1, e3, z1, hlim]
/-- plain data: numbers, texts, None, tuples of such -/
def dat : Nat → Val → Prop
  | 0, _ => False
  | n + 1, v => match v with
    | .non => True
    | .int _ => True
    | .str _ => True
    | .tup xs => (xs.length : Int) ≤ 1000 ∧ ∀ x ∈ xs, dat n x
    | _ => False
theorem dat_in {n : Nat} {v : Val} (h : dat n v) (M : Store) : inM M v := by
  cases n with
  | zero => exact h.elim
  | succ n => cases v <;> first | trivial | exact h.elim
theorem dat_wf {n : Nat} {v : Val} (h : dat n v) (M : Store) : wfT M v := by
  refine ⟨dat_in h M, fun xs e y hy => ?_⟩
  subst e
  cases n with
  | zero => exact h.elim
  | succ n => exact dat_in (h.2 y hy) M
theorem dat_more {n : Nat} : ∀ {m : Nat} {v : Val}, n ≤ m → dat n v → dat m v := by
  induction n with
  | zero => intro m v _ h; exact h.elim
  | succ n ih =>
    intro m v hm h
    obtain ⟨m, rfl⟩ : ∃ k, m = k + 1 := ⟨m - 1, by omega⟩
    cases v with
    | tup xs => exact ⟨h.1, fun x hx => ih (by omega) (h.2 x hx)⟩
    | _ => first | trivial | exact h.elim
end K19
end K19PCS

section K19PDS
set_option Elab.async false
set_option linter.all false
set_option maxRecDepth 100000
namespace K19
open Mi
theorem edit_put {s : List Nat} (h : textB (.str s) = true) : editB (.tup [.str [112, 117, 116], .str s]) = true := by
  simp [editB, textEditB, wPut, one, h]
theorem edit_splice {s : List Nat} {a b : Int} (ha : 0 ≤ a) (hb : 0 ≤ b) (h : textB (.str s) = true) : editB (.tup [.str [115, 112, 108, 105, 99, 101], .int a, .int b, .str s]) = true := by
  simp [editB, textEditB, wPut, wSplice, thr, spliceB, fromB, ha, hb, h]
theorem edit_remove : editB (.tup [.str [114, 101, 109, 111, 118, 101]]) = true := by decide
theorem edit_take {s : List Nat} (h : nameB0 (.str s) = true) : editB (.tup [.str [116, 97, 107, 101], .str s]) = true := by
  simp [editB, textEditB, wPut, wSplice, wRemove, wTake, one, h]
theorem edit_adopt {a b : Int} (ha : 1 ≤ a) (ha2 : a ≤ 9) (hb : 1 ≤ b) : editB (.tup [.str [97, 100, 111, 112, 116], .int a, .int b]) = true := by
  simp [editB, textEditB, wPut, wSplice, wRemove, wTake, wAdopt, wDrop, two, cliB, fromB, ha, ha2, hb]
theorem edit_drop {a b : Int} (ha : 1 ≤ a) (ha2 : a ≤ 9) (hb : 1 ≤ b) : editB (.tup [.str [100, 114, 111, 112], .int a, .int b]) = true := by
  simp [editB, textEditB, wPut, wSplice, wRemove, wTake, wAdopt, wDrop, two, cliB, fromB, ha, ha2, hb]
theorem edit (n : Nat) {ns : List Int} {T M : Store} (h : S1 ns T M) : ∃ X e M', call pg (n + 4) 18 [.ref 2] M = .ok e M' ∧ S1 ns (T ++ X) M' ∧ editB e = true ∧ dat 2 e := by
  rw [call_s pg (n + 3) 18 _ _ ⟨1, 5, b18⟩ rfl rfl]
  obtain ⟨X1, nm, M1, e1, h1, q1⟩ := name n h
  obtain ⟨cl, M2, c0, c1, e2, h2⟩ := draw (n + 2) 9 (by decide) (by decide) h1
  obtain ⟨nu, M3, u0, u1, e3, h3⟩ := draw (n + 2) 99 (by decide) (by decide) h2
  obtain ⟨X4, t4, M4, e4, h4, q4⟩ := text n h3
  obtain ⟨at5, M5, a0, a1, e5, h5⟩ := draw (n + 2) 97 (by decide) (by decide) h4
  obtain ⟨gone, M6, g0, g1, e6, h6⟩ := draw (n + 2) 97 (by decide) (by decide) h5
  obtain ⟨X7, t7, M7, e7, h7, q7⟩ := text n h6
  obtain ⟨T7, hT7⟩ : ∃ T7, T7 = T ++ X1 ++ X4 ++ X7 := ⟨_, rfl⟩
  rw [← hT7] at h7
  obtain ⟨A, hA⟩ : ∃ A : List Val, A = [.tup [.str [112, 117, 116], .str t4], .tup [.str [115, 112, 108, 105, 99, 101], .int at5, .int gone, .str t7], .tup [.str [114, 101, 109, 111, 118, 101]]] := ⟨_, rfl⟩
  obtain ⟨B, hB⟩ : ∃ B : List Val, B = [.tup [.str [116, 97, 107, 101], .str nm], .tup [.str [97, 100, 111, 112, 116], .int (1 + cl), .int (1 + nu)], .tup [.str [100, 114, 111, 112], .int (1 + cl), .int (1 + nu)]] := ⟨_, rfl⟩
  have lA : A.length = 3 := by rw [hA]; rfl
  have lB : B.length = 3 := by rw [hB]; rfl
  have h8 := h7.push [.lst A, .lst B, .lst (A ++ B)]
  obtain ⟨x, M8, hx, e8, h9⟩ := any (n + 1) (k := T7.length + 2) (xs := A ++ B) h8 (by simp) (by rw [List.length_append, lA, lB]; decide) (by rw [List.length_append, lA, lB]; decide)
  have hl : T7.length + 2 + 3 = M7.length + 2 := by rw [h7.len]
  rw [hl] at e8
  refine ⟨X1 ++ X4 ++ X7 ++ [.lst A, .lst B, .lst (A ++ B)], x, M8, ?_, ?_, ?_⟩
  · have l1 : (1 : Nat) ≤ LIM := by rw [lim_val]; omega
    have l2 : (2 : Nat) ≤ LIM := by rw [lim_val]; omega
    have l3 : (3 : Nat) ≤ LIM := by rw [lim_val]; omega
    have l4 : (4 : Nat) ≤ LIM := by rw [lim_val]; omega
    have l6 : (6 : Nat) ≤ LIM := by rw [lim_val]; omega
    have i1 : (M7 ++ [Obj.lst A, Obj.lst B])[M7.length]? = some (.lst A) := by simp
    have i2 : (M7 ++ [Obj.lst A, Obj.lst B])[M7.length + 1]? = some (.lst B) := by simp
    rw [hA, hB] at i1 i2 e8
    simp at e8
    simp [b18, start, e1, e2, e3, e4, e5, e6, e7, op_add, op2, i1, i2, l1, l2, l3, l4, l6, e8]
  · rw [show T ++ (X1 ++ X4 ++ X7 ++ [Obj.lst A, .lst B, .lst (A ++ B)]) = T7 ++ [.lst A, .lst B, .lst (A ++ B)] by rw [hT7]; simp]
    exact h9
  · rw [hA, hB] at hx
    simp only [List.cons_append, List.nil_append, List.mem_cons, List.not_mem_nil, or_false] at hx
    rcases hx with rfl | rfl | rfl | rfl | rfl | rfl
    · exact ⟨edit_put q4, by simp, by simp [dat]⟩
    · exact ⟨edit_splice a0 g0 q7, by simp, by simp [dat]⟩
    · exact ⟨edit_remove, by simp, by simp [dat]⟩
    · exact ⟨edit_take q1, by simp, by simp [dat]⟩
    · exact ⟨edit_adopt (by omega) (by omega) (by omega), by simp, by simp [dat]⟩
    · exact ⟨edit_drop (by omega) (by omega) (by omega), by simp, by simp [dat]⟩
end K19
end K19PDS

section K19PES
set_option Elab.async false
set_option linter.all false
set_option maxRecDepth 100000
namespace K19
open Mi
theorem dat_nr : ∀ {n : Nat} {v : Val}, dat n v → noRef v = true ∧ depth v ≤ n
  | 0, v, h => h.elim
  | n + 1, v, h => by
    cases v with
    | tup xs =>
      have key : ∀ ys : List Val, (∀ y ∈ ys, dat n y) → noRefs ys = true ∧ depths ys ≤ n := by
        intro ys
        induction ys with
        | nil => intro _; exact ⟨rfl, Nat.zero_le _⟩
        | cons y ys ih =>
          intro hy
          have a := dat_nr (hy y List.mem_cons_self)
          have b := ih fun z hz => hy z (List.mem_cons_of_mem _ hz)
          exact ⟨by simp [noRefs, a.1, b.1], by simp [depths]; omega⟩
      have := key xs h.2
      exact ⟨by simp [noRef, this.1], by simp [depth]; omega⟩
    | _ => first | exact h.elim | exact ⟨rfl, by simp [depth]⟩
theorem dats_nr {n : Nat} {ys : List Val} (hy : ∀ y ∈ ys, dat n y) : noRefs ys = true ∧ depths ys ≤ n := by
  induction ys with
  | nil => exact ⟨rfl, Nat.zero_le _⟩
  | cons y ys ih =>
    have a := dat_nr (hy y List.mem_cons_self)
    have b := ih fun z hz => hy z (List.mem_cons_of_mem _ hz)
    exact ⟨by simp [noRefs, a.1, b.1], by simp [depths]; omega⟩
/-! ### the law's own likeness -/
theorem law_is_all (d n : Nat) (M : Store) (ih : ∀ {v : Val}, dat d v → call pg (n + d) 14 [v, v] M = .ok (.bl true) M) {xs : List Val} (h : dat (d + 1) (.tup xs)) : ev ⟨call pg (n + d), pg.repr, pg.eqx, pg.sub⟩ (.bil .all (.comp [2] (.one 2) (.rng (.bi .len (.var 1))) .nil (.call 14 (.cons (.ix (.var 0) (.var 2)) (.cons (.ix (.var 1) (.var 2)) .nil))))) [some (.tup xs), some (.tup xs), none] M = .ok (.bl true) M := by
  have hl : xs.length ≤ 1000 := by have := h.1; omega
  have hr : evS ⟨call pg (n + d), pg.repr, pg.eqx, pg.sub⟩ (.rng (.bi .len (.var 1))) [some (.tup xs), some (.tup xs), none] M = .ok ((List.range xs.length).map fun i => .int (i : Nat), []) M := rng_nat (by simp [bi1, lenV]) (by omega)
  rw [s_bil, evL_comp, hr]
  simp only [Res.bind_ok]
  rw [turns_pure (M := M) (g := []) True.intro (fun _ => .bl true) fun x hx => ?_]
  · simp only [Res.bind_ok, lcEnd, List.nil_append]
    rw [if_pos (by simp only [List.length_map, List.length_range]; rw [lim_val]; omega)]
    simp only [Res.bind_ok, bil1]
    rw [bools_map (fun _ => true)]
    simp
  · obtain ⟨j, hj, rfl⟩ := List.mem_map.mp hx
    have hj : j < xs.length := List.mem_range.mp hj
    have e : itemAt xs ((j : Nat) : Int) = some xs[j] := by
      unfold itemAt place
      rw [if_pos (by omega), if_pos (by omega)]
      simp [hj]
    have q := ih (h.2 _ (List.getElem_mem hj))
    unfold lcTurn
    simp [put, wiped, ixV, e, q]
theorem law_is_int (n : Nat) (M : Store) (i : Int) : call pg (n + 1) 14 [.int i, .int i] M = .ok (.bl true) M := by
  rw [call_s pg n 14 _ _ ⟨2, 3, b14⟩ rfl rfl]
  simp [-s_bil, b14, start, isOfs, noExv, anyOf, isOf, cmpV, noRef, depth, eqV, truth, bi1, lenV]
theorem eq_non (M : Store) : cmpV .eq .non .non M = some true := rfl
theorem isOfs_non (M : Store) : isOfs [.tuple, .list] .non M = some false := rfl
theorem isOfs_str (M : Store) (s : List Nat) : isOfs [.tuple, .list] (.str s) M = some false := rfl
theorem isOfs_tup (M : Store) (s : List Val) : isOfs [.tuple, .list] (.tup s) M = some true := rfl
theorem law_is_non (n : Nat) (M : Store) : call pg (n + 1) 14 [.non, .non] M = .ok (.bl true) M := by
  rw [call_s pg n 14 _ _ ⟨2, 3, b14⟩ rfl rfl]
  simp [-s_bil, b14, start, isOfs_non, isOf, eq_bl, eq_non, truth]
theorem law_is_str (n : Nat) (M : Store) (s : List Nat) : call pg (n + 1) 14 [.str s, .str s] M = .ok (.bl true) M := by
  rw [call_s pg n 14 _ _ ⟨2, 3, b14⟩ rfl rfl]
  simp [-s_bil, b14, start, isOfs_str, isOf, eq_bl, eq_str, truth]
end K19
end K19PES

section K19PFS
set_option Elab.async false
set_option linter.all false
set_option maxRecDepth 100000
namespace K19
open Mi
def isAll : E := .bil .all (.comp [2] (.one 2) (.rng (.bi .len (.var 1))) .nil (.call 14 (.cons (.ix (.var 0) (.var 2)) (.cons (.ix (.var 1) (.var 2)) .nil))))
def isTup : S := .ite (.isis (.var 1) [.tuple, .list]) (.cons (.ite (.or (.cmp .ne (.isi (.var 0) .tuple) (.isi (.var 1) .tuple)) (.cmp .ne (.isi (.var 0) .list) (.isi (.var 1) .list))) (.cons (.ret (.cst (.bl false))) .nil) .nil) (.cons (.ret (.and (.cmp .eq (.bi .len (.var 0)) (.bi .len (.var 1))) isAll)) .nil)) .nil
def isRest : Ss := .cons (.ret (.and (.cmp .eq (.isi (.var 0) .bool) (.isi (.var 1) .bool)) (.cmp .eq (.var 0) (.var 1)))) .nil
theorem b14_eq : b14 = .cons isTup isRest := rfl
theorem u1 (cf : Cf) (M : Store) {xs : List Val} : ev cf (.or (.cmp .ne (.isi (.var 0) .tuple) (.isi (.var 1) .tuple)) (.cmp .ne (.isi (.var 0) .list) (.isi (.var 1) .list))) [some (.tup xs), some (.tup xs), none] M = .ok (.bl false) M := by
  simp [isOf, ne_bl, truth]
theorem u2 (cf : Cf) (M : Store) {xs : List Val} : ev cf (.isis (.var 1) [.tuple, .list]) [some (.tup xs), some (.tup xs), none] M = .ok (.bl true) M := by
  simp [isOfs_tup]
theorem u3 (cf : Cf) (M : Store) {xs : List Val} : ev cf (.cmp .eq (.bi .len (.var 0)) (.bi .len (.var 1))) [some (.tup xs), some (.tup xs), none] M = .ok (.bl true) M := by
  simp [bi1, lenV, eq_int]
theorem law_is_tup (d n : Nat) (M : Store) (ih : ∀ {v : Val}, dat d v → call pg (n + d) 14 [v, v] M = .ok (.bl true) M) {xs : List Val} (h : dat (d + 1) (.tup xs)) : call pg (n + d + 1) 14 [.tup xs, .tup xs] M = .ok (.bl true) M := by
  rw [call_s pg (n + d) 14 _ _ ⟨2, 3, b14⟩ rfl rfl]
  refine back_s ?_
  show exs ⟨call pg (n + d), pg.repr, pg.eqx, pg.sub⟩ b14 [some (.tup xs), some (.tup xs), none] M = _
  rw [b14_eq]
  refine seq_ret ?_
  unfold isTup
  rw [ite_t (u2 _ M), seq_nx (σ1 := [some (.tup xs), some (.tup xs), none]) (M1 := M) (by rw [ite_f (u1 _ M), xs_nil])]
  refine seq_ret (ret_s ?_)
  rw [and_t (u3 _ M)]
  exact law_is_all d n M ih h
theorem law_is (n : Nat) (M : Store) (d : Nat) : ∀ {v : Val}, dat d v → call pg (n + d) 14 [v, v] M = .ok (.bl true) M := by
  induction d with
  | zero => intro v h; exact h.elim
  | succ d ih =>
    intro v h
    cases v with
    | tup xs => exact law_is_tup d n M ih h
    | int i => exact law_is_int (n + d) M i
    | non => exact law_is_non (n + d) M
    | str s => exact law_is_str (n + d) M s
    | bl b => exact h.elim
    | ref k => exact h.elim
    | frz k => exact h.elim
    | fn k => exact h.elim
end K19
end K19PFS

section K19PGS
set_option Elab.async false
set_option linter.all false
set_option maxRecDepth 100000
namespace Mi
/-- all([g(x, q) for x, q in zip(a, b)]), all true -/
theorem all_zip {cf : Cf} {σ : St} {M : Store} {i j g : Nat} {a b : E} {xs ys : List Val} (ha : ev cf a σ M = .ok (.tup xs) M) (hb : ev cf b σ M = .ok (.tup ys) M) (hij : i ≠ j) (hi : i < σ.length) (hj : j < σ.length) (hl : (zipV xs ys).length ≤ 1000)
    (h : ∀ z ∈ zipV xs ys, ∃ x q, z = .tup [x, q] ∧ cf.call g [x, q] M = .ok (.bl true) M) :
    ev cf (.bil .all (.comp [i, j] (.many [i, j]) (.zip a b) .nil (.call g (.cons (.var i) (.cons (.var j) .nil))))) σ M = .ok (.bl true) M := by
  have hs : evS cf (.zip a b) σ M = .ok (zipV xs ys, []) M := by rw [sS_zip, ha, Res.bind_ok, hb, Res.bind_ok]
  rw [s_bil, evL_comp, hs]
  simp only [Res.bind_ok]
  rw [turns_pure (M := M) (g := []) True.intro (fun _ => .bl true) fun z hz => ?_]
  · simp only [Res.bind_ok, lcEnd, List.nil_append]
    rw [if_pos (by rw [lim_val, List.length_map]; omega)]
    simp only [Res.bind_ok, bil1]
    rw [bools_map (fun _ => true)]
    simp
  · obtain ⟨x, q, rfl, e⟩ := h z hz
    have w1 : (wiped σ [i, j]).length = σ.length := by simp [wiped]
    have v1 : (((wiped σ [i, j]).set i (some x)).set j (some q))[i]? = some (some x) := by
      rw [List.getElem?_set_ne (fun z => hij z.symm), List.getElem?_set_self (by rw [w1]; exact hi)]
    have v2 : (((wiped σ [i, j]).set i (some x)).set j (some q))[j]? = some (some q) := by
      rw [List.getElem?_set_self (by rw [List.length_set, w1]; exact hj)]
    unfold lcTurn
    have hp : put (.many [i, j]) (.tup [x, q]) (wiped σ [i, j]) = some (((wiped σ [i, j]).set i (some x)).set j (some q)) := rfl
    rw [hp]
    simp only [st_nil0, Res.bind_ok, if_true]
    rw [call_2 (x := x) (y := q) (M1 := M) (M2 := M) (by rw [s_var, v1]) (by rw [s_var, v2]), e]
    rfl
end Mi
namespace K19
open Mi
theorem c_count (n : Nat) (x : Val) (M : Store) (h : inM M x) : call pg (n + 3) 19 [x] M = .ok (.bl (fromB x 0)) M := by
  rw [call_s pg (n + 2) 19 _ _ ⟨1, 1, b19⟩ rfl rfl]
  simp [b19, start, c_from n x 0 M h]
theorem c_number (n : Nat) (x : Val) (M : Store) (h : inM M x) : call pg (n + 3) 20 [x] M = .ok (.bl (fromB x 1)) M := by
  rw [call_s pg (n + 2) 20 _ _ ⟨1, 1, b20⟩ rfl rfl]
  simp [b20, start, c_from n x 1 M h]
def baseB (x : Val) : Bool := isNon x || stampB x
theorem c_base (n : Nat) (x : Val) (M : Store) (h : wfT M x) : call pg (n + 5) 21 [x] M = .ok (.bl (baseB x)) M := by
  rw [call_s pg (n + 4) 21 _ _ ⟨1, 1, b21⟩ rfl rfl]
  cases e : isNon x <;> simp [b21, start, c_stamp n x M h, cmpV, e, truth, baseB]
theorem part_run (n : Nat) (x : Val) (s : List Nat) (f : PySem.Str) (g : Nat) (M : Store) (h1 : tabGet pg.eqx "JUDGES" (.str s) = some (.fn f)) (h2 : pg.eqx.fno f = some g) : call pg (n + 1) 26 [x, .str s] M = call pg n g [x] M := by
  rw [call_s pg n 26 _ _ ⟨2, 3, b26⟩ rfl rfl]
  show back M (exs ⟨call pg n, pg.repr, pg.eqx, pg.sub⟩ b26 [some x, some (.str s), none] M) = _
  unfold b26
  have e1 : ev ⟨call pg n, pg.repr, pg.eqx, pg.sub⟩ (.tget "JUDGES" (.var 1)) [some x, some (.str s), none] M = .ok (.fn f) M := by
    rw [s_tget, s_var]
    show (Res.ok (Val.str s) M).bind _ = _
    rw [Res.bind_ok, h1, ofOpt_some]
  rw [seq_nx (set_s e1), xs_cons, x_ret, s_callv]
  show back M ((Out.on (match pg.eqx.fno f with | some g => _ | none => _) _ _).seq _) = _
  rw [h2]
  simp only [ss_cons, ss_nil, s_var]
  show back M ((Out.on (call pg n g [x] M) _ _).seq _) = _
  cases call pg n g [x] M <;> rfl
theorem part_number (n : Nat) (x : Val) (M : Store) (h : inM M x) : call pg (n + 4) 26 [x, .str [110, 117, 109, 98, 101, 114]] M = .ok (.bl (fromB x 1)) M := by
  rw [part_run (n + 3) x _ "is_number" 20 M rfl rfl, c_number n x M h]
theorem part_name (n : Nat) (x : Val) (M : Store) (h : inM M x) : call pg (n + 2) 26 [x, .str [110, 97, 109, 101]] M = .ok (.bl (nameB0 x)) M := by
  rw [part_run (n + 1) x _ "is_name" 4 M rfl rfl, c_name n x M h]
theorem part_base (n : Nat) (x : Val) (M : Store) (h : wfT M x) : call pg (n + 6) 26 [x, .str [98, 97, 115, 101]] M = .ok (.bl (baseB x)) M := by
  rw [part_run (n + 5) x _ "is_base" 21 M rfl rfl, c_base n x M h]
theorem part_edit (n : Nat) (x : Val) (M : Store) (h : wfT M x) : call pg (n + 6) 26 [x, .str [101, 100, 105, 116]] M = .ok (.bl (editB x)) M := by
  rw [part_run (n + 5) x _ "is_edit" 10 M rfl rfl, c_edit n x M h]
end K19
end K19PGS

section K19PHS
set_option Elab.async false
set_option linter.all false
set_option maxRecDepth 100000
namespace K19
open Mi
def formTurn : E := .bil .all (.comp [2, 3] (.many [2, 3]) (.zip (.var 0) (.var 1)) .nil (.call 26 (.cons (.var 2) (.cons (.var 3) .nil))))
theorem b27_eq : b27 = .cons (.ite (.or (.not (.isi (.var 0) .tuple)) (.cmp .ne (.bi .len (.var 0)) (.bi .len (.var 1)))) (.cons (.ret (.cst (.bl false))) .nil) .nil) (.cons (.ret formTurn) .nil) := rfl
theorem zip_len : ∀ (xs ys : List Val), (zipV xs ys).length ≤ xs.length
  | [], _ => Nat.le_refl _
  | _ :: _, [] => Nat.zero_le _
  | x :: xs, y :: ys => by
    have := zip_len xs ys
    simp only [zipV, List.length_cons]
    omega
theorem form_run (n : Nat) (xs ys : List Val) (M : Store) (hl : xs.length = ys.length) (hle : xs.length ≤ 1000) (h : ∀ z ∈ zipV xs ys, ∃ x q, z = .tup [x, q] ∧ call pg n 26 [x, q] M = .ok (.bl true) M) : call pg (n + 1) 27 [.tup xs, .tup ys] M = .ok (.bl true) M := by
  rw [call_s pg n 27 _ _ ⟨2, 4, b27⟩ rfl rfl]
  refine back_s ?_
  show exs ⟨call pg n, pg.repr, pg.eqx, pg.sub⟩ b27 [some (.tup xs), some (.tup ys), none, none] M = _
  rw [b27_eq]
  have c1 : ev ⟨call pg n, pg.repr, pg.eqx, pg.sub⟩ (.or (.not (.isi (.var 0) .tuple)) (.cmp .ne (.bi .len (.var 0)) (.bi .len (.var 1)))) [some (.tup xs), some (.tup ys), none, none] M = .ok (.bl false) M := by
    simp [isOf, truth, bi1, lenV, ne_int, hl]
  rw [seq_nx (σ1 := [some (.tup xs), some (.tup ys), none, none]) (M1 := M) (by rw [ite_f c1, xs_nil])]
  refine seq_ret (ret_s ?_)
  unfold formTurn
  exact all_zip (by rw [s_var] <;> rfl) (by rw [s_var] <;> rfl) (by decide) (by simp) (by simp) (Nat.le_trans (zip_len xs ys) hle) h
/-- a pending write with its number -/
def wrOk (i : Int) (v : Val) : Prop := ∃ s base e, v = .tup [.int i, .str s, base, e] ∧ nameB0 (.str s) = true ∧ baseB base = true ∧ editB e = true ∧ dat 3 base ∧ dat 3 e
def vWrite : List Val := [.str [110, 117, 109, 98, 101, 114], .str [110, 97, 109, 101], .str [98, 97, 115, 101], .str [101, 100, 105, 116]]
theorem form_write (n : Nat) {i : Int} {v : Val} (M : Store) (hi : 1 ≤ i) (h : wrOk i v) : call pg (n + 7) 27 [v, .tup vWrite] M = .ok (.bl true) M := by
  obtain ⟨s, base, e, rfl, h1, h2, h3, d1, d2⟩ := h
  refine form_run (n + 6) _ _ M rfl (by simp) fun z hz => ?_
  simp only [vWrite, zipV, List.mem_cons, List.not_mem_nil, or_false] at hz
  rcases hz with rfl | rfl | rfl | rfl
  · exact ⟨_, _, rfl, by rw [part_number (n + 2) (.int i) M trivial]; simp [fromB, hi]⟩
  · exact ⟨_, _, rfl, by rw [part_name (n + 4) (.str s) M trivial, h1]⟩
  · exact ⟨_, _, rfl, by rw [part_base n _ M (dat_wf d1 M), h2]⟩
  · exact ⟨_, _, rfl, by rw [part_edit n _ M (dat_wf d2 M), h3]⟩
def wrs : Int → List Val → Prop
  | _, [] => True
  | i, v :: vs => wrOk i v ∧ wrs (i + 1) vs
theorem wrs_app {v : Val} : ∀ {i : Int} {P : List Val}, wrs i P → wrOk (i + P.length) v → wrs i (P ++ [v])
  | i, [], _, h => ⟨by simpa using h, trivial⟩
  | i, p :: P, h, hv => ⟨h.1, wrs_app h.2 (by
      rw [show i + 1 + (P.length : Int) = i + ((p :: P).length : Nat) by simp; omega]
      exact hv)⟩
theorem wrs_mem : ∀ {i : Int} {P : List Val}, wrs i P → ∀ v ∈ P, ∃ j, i ≤ j ∧ wrOk j v
  | i, p :: P, h, v, hv => by
    rcases List.mem_cons.mp hv with rfl | hv
    · exact ⟨i, Int.le_refl _, h.1⟩
    · obtain ⟨j, hj, q⟩ := wrs_mem h.2 v hv
      exact ⟨j, by omega, q⟩
def numOf : Val → Val
  | .tup (x :: _) => x
  | v => v
theorem wrs_nums : ∀ {i : Int} {P : List Val}, wrs i P → P.map numOf = (List.range P.length).map fun (k : Nat) => .int (i + (k : Nat))
  | i, [], _ => rfl
  | i, p :: P, h => by
    obtain ⟨⟨s, base, e, rfl, _⟩, h2⟩ := h
    rw [List.map_cons, wrs_nums h2, List.length_cons, List.range_succ_eq_map, List.map_cons, List.map_map]
    congr 1
    · simp [numOf]
    · refine List.map_congr_left fun k _ => ?_
      simp only [Function.comp]
      congr 1
      omega
theorem wr_dat {i : Int} {v : Val} (h : wrOk i v) : dat 4 v := by
  obtain ⟨s, base, e, rfl, h1, h2, h3, d1, d2⟩ := h
  refine ⟨by simp, fun x hx => ?_⟩
  simp only [List.mem_cons, List.not_mem_nil, or_false] at hx
  rcases hx with rfl | rfl | rfl | rfl
  · trivial
  · trivial
  · exact d1
  · exact d2
/-- a sheet -/
structure ShOk (b f : Int) (P : List Val) : Prop where
  b0 : 0 ≤ b
  f0 : 0 ≤ f
  f1 : f < 2 ^ 40
  len : P.length ≤ 900
  le : (P.length : Int) ≤ f
  ws : wrs (f - P.length + 1) P
def sheetV (b f : Int) (P : List Val) : Val := .tup [.int b, .int f, .tup P]
theorem sheet_dat {b f : Int} {P : List Val} (h : ShOk b f P) : dat 6 (sheetV b f P) := by
  refine ⟨by simp, fun x hx => ?_⟩
  simp only [List.mem_cons, List.not_mem_nil, or_false] at hx
  rcases hx with rfl | rfl | rfl
  · trivial
  · trivial
  · refine ⟨by have := h.len; omega, fun v hv => ?_⟩
    obtain ⟨j, _, q⟩ := wrs_mem h.ws v hv
    exact wr_dat q
end K19
end K19PHS

section K19PIS
set_option Elab.async false
set_option linter.all false
set_option maxRecDepth 100000
namespace K19
open Mi
theorem ints_ok (g : Nat → Int) : ∀ l : List Nat, noRefs (l.map fun k => .int (g k)) = true ∧ depths (l.map fun k => .int (g k)) = 0 ∧ eqVs (l.map fun k => .int (g k)) (l.map fun k => .int (g k)) = true
  | [] => ⟨rfl, rfl, rfl⟩
  | k :: l => by
    obtain ⟨a, b, c⟩ := ints_ok g l
    exact ⟨by simp [noRefs, noRef, a], by simp [depths, depth, b], by simp [eqVs, eqV, c]⟩
def shAll : E := .bil .all (.comp [4] (.one 4) (.seq (.var 3)) .nil (.call 27 (.cons (.var 4) (.cons (.cst (.tup [(.str [110, 117, 109, 98, 101, 114]), (.str [110, 97, 109, 101]), (.str [98, 97, 115, 101]), (.str [101, 100, 105, 116])])) .nil))))
def shNums : L := .comp [4] (.one 4) (.seq (.var 3)) .nil (.ix (.var 4) (.cst (.int 0)))
def shRng : L := .rng2 (.op .add (.op .sub (.var 2) (.bi .len (.var 3))) (.cst (.int 1))) (.op .add (.var 2) (.cst (.int 1)))
def shC1 : E := .or (.not (.isi (.var 0) .tuple)) (.cmp .ne (.bi .len (.var 0)) (.cst (.int 3)))
def shC2 : E := .or (.not (.call 19 (.cons (.var 1) .nil))) (.or (.not (.call 19 (.cons (.var 2) .nil))) (.not (.isi (.var 3) .tuple)))
theorem b29_eq : b29 = .cons (.ite shC1 (.cons (.ret (.cst (.bl false))) .nil) .nil) (.cons (.unp [1, 2, 3] (.var 0)) (.cons (.ite shC2 (.cons (.ret (.cst (.bl false))) .nil) .nil) (.cons (.ite (.not shAll) (.cons (.ret (.cst (.bl false))) .nil) .nil) (.cons (.ret (.cmp .eq (.lst shNums) (.lst shRng))) .nil)))) := rfl
theorem c_sheet (n : Nat) {b f : Int} {P : List Val} (M : Store) (h : ShOk b f P) : ∃ X, call pg (n + 8) 29 [sheetV b f P] M = .ok (.bl true) (M ++ X) := by
  refine ⟨[.lst (P.map numOf), .lst (P.map numOf)], ?_⟩
  rw [call_s pg (n + 7) 29 _ _ ⟨1, 5, b29⟩ rfl rfl]
  refine back_s ?_
  show exs ⟨call pg (n + 7), pg.repr, pg.eqx, pg.sub⟩ b29 [some (sheetV b f P), none, none, none, none] M = _
  rw [b29_eq]
  obtain ⟨cf, hcf⟩ : ∃ cf : Cf, cf = ⟨call pg (n + 7), pg.repr, pg.eqx, pg.sub⟩ := ⟨_, rfl⟩
  have hcall : cf.call = call pg (n + 7) := by rw [hcf]
  rw [← hcf]
  have e1 : ev cf shC1 [some (sheetV b f P), none, none, none, none] M = .ok (.bl false) M := by
    simp [shC1, sheetV, isOf, truth, bi1, lenV, ne_int]
  have e2 : ex cf (.unp [1, 2, 3] (.var 0)) [some (sheetV b f P), none, none, none, none] M = .nx [some (sheetV b f P), some (.int b), some (.int f), some (.tup P), none] M := by
    simp [sheetV, put]
  obtain ⟨σ, hσ⟩ : ∃ σ : St, σ = [some (sheetV b f P), some (.int b), some (.int f), some (.tup P), none] := ⟨_, rfl⟩
  have v1 : σ[1]? = some (some (.int b)) := by rw [hσ] <;> rfl
  have v2 : σ[2]? = some (some (.int f)) := by rw [hσ] <;> rfl
  have v3 : σ[3]? = some (some (.tup P)) := by rw [hσ] <;> rfl
  rw [seq_nx (by rw [ite_f e1, xs_nil]), seq_nx e2, ← hσ]
  have e3 : ev cf shC2 σ M = .ok (.bl false) M := by
    have k1 : cf.call 19 [.int b] M = .ok (.bl true) M := by rw [hcall, c_count (n + 4) (.int b) M trivial]; simp [fromB, h.b0]
    have k2 : cf.call 19 [.int f] M = .ok (.bl true) M := by rw [hcall, c_count (n + 4) (.int f) M trivial]; simp [fromB, h.f0]
    unfold shC2
    rw [or_f (not_s (k := true) (by rw [call_1 (x := .int b) (M1 := M) (by rw [s_var, v1]), k1])), or_f (not_s (k := true) (by rw [call_1 (x := .int f) (M1 := M) (by rw [s_var, v2]), k2])),
      not_s (k := true) (by rw [s_isi, s_var, v3]; rfl)]
    rfl
  rw [seq_nx (by rw [ite_f e3, xs_nil])]
  have hlim : P.length ≤ LIM := by rw [lim_val]; have := h.len; omega
  have hget : ∀ v ∈ P, ((wiped σ [4]).set 4 (some v))[4]? = some (some v) := fun v _ => by rw [hσ] <;> rfl
  have e4 : ev cf shAll σ M = .ok (.bl true) M := by
    unfold shAll
    rw [all_pure (fun _ => true) (v := .tup P) (xs := P) (by rw [s_var, v3]) rfl hlim]
    · simp
    · intro v hv
      obtain ⟨j, hj, q⟩ := wrs_mem h.ws v hv
      rw [call_2 (x := v) (y := .tup vWrite) (M1 := M) (M2 := M) (by rw [s_var, hget v hv]) (by rw [s_cst] <;> rfl), hcall]
      exact form_write n M (by have := h.le; omega) q
  rw [seq_nx (by rw [ite_f (not_s e4), xs_nil])]
  have e5 : evL cf shNums σ M = .ok (P.map numOf) M := by
    unfold shNums
    refine comp_pure numOf (v := .tup P) (xs := P) (by rw [s_var, v3]) rfl hlim fun v hv => ?_
    obtain ⟨j, hj, s, base, e, rfl, _⟩ := wrs_mem h.ws v hv
    exact ix_s (x := .tup [.int j, .str s, base, e]) (y := .int 0) (M1 := M) (M2 := M) (by rw [s_var, hget _ hv]) (by rw [s_cst]) (by simp [ixV, first, numOf])
  have e6 : ∀ M1, evL cf shRng σ M1 = .ok (P.map numOf) M1 := fun M1 => by
    have a1 : ev cf (.op .add (.op .sub (.var 2) (.bi .len (.var 3))) (.cst (.int 1))) σ M1 = .ok (.int (f - P.length + 1)) M1 := by
      simp [v2, v3, bi1, lenV, op_sub, op_add]
    have a2 : ev cf (.op .add (.var 2) (.cst (.int 1))) σ M1 = .ok (.int (f + 1)) M1 := by
      simp [v2, op_add]
    unfold shRng
    have r1 : rngOk (f - P.length + 1) (f + 1) = true := by
      have := h.f0; have := h.f1; have := h.le; have := h.len
      simp only [rngOk, Bool.and_eq_true, decide_eq_true_eq]
      omega
    have r2 : rngV (f - P.length + 1) (f + 1) = P.map numOf := by
      rw [wrs_nums h.ws]
      unfold rngV
      rw [show (f + 1 - (f - P.length + 1)).toNat = P.length by omega]
    rw [sl_rng2, a1, Res.bind_ok, a2, Res.bind_ok]
    simp only [r1, if_true, r2]
  refine seq_ret (ret_s ?_)
  have e7 := lst_s e5
  have e8 := lst_s (e6 (M ++ [.lst (P.map numOf)]))
  obtain ⟨q1, q2, q3⟩ := ints_ok (fun k => f - P.length + 1 + (k : Nat)) (List.range P.length)
  rw [← wrs_nums h.ws] at q1 q2 q3
  have e9 := cmp_s (o := .eq) (k := true) e7 e8 (by
    show eqL _ _ _ = _
    unfold eqL
    have g1 : (M ++ [Obj.lst (P.map numOf)] ++ [Obj.lst (P.map numOf)])[M.length]? = some (.lst (P.map numOf)) := by simp
    have g2 : (M ++ [Obj.lst (P.map numOf)] ++ [Obj.lst (P.map numOf)])[(M ++ [Obj.lst (P.map numOf)]).length]? = some (.lst (P.map numOf)) := by simp
    rw [g1, g2]
    simp only [q1, q2, q3]
    rfl)
  rw [e9, List.append_assoc]
  rfl
end K19
end K19PIS

section K19PJS
set_option Elab.async false
set_option linter.all false
set_option maxRecDepth 100000
namespace K19
open Mi
def wBoot : List Nat := [98, 111, 111, 116]
def wWrite : List Nat := [119, 114, 105, 116, 101]
def wSettled : List Nat := [115, 101, 116, 116, 108, 101, 100]
def wStand : List Nat := [115, 116, 97, 110, 100]
def nC1 : E := .not (.call 7 (.cons (.var 0) .nil))
def nPar : S := .par 1 2 (.ix (.var 0) (.cst (.int 0))) (.sl (.var 0) (.some (.cst (.int 1))) .none)
def nC2 : E := .cmp .eq (.var 1) (.cst (.str [115, 116, 97, 110, 100]))
def nR1 : E := .and (.cmp .eq (.bi .len (.var 2)) (.cst (.int 1))) (.call 29 (.cons (.ix (.var 2) (.cst (.int 0))) .nil))
def nR2 : E := .and (.tin false (.var 1) "NOTE_FORMS") (.call 27 (.cons (.var 2) (.cons (.tget "NOTE_FORMS" (.var 1)) .nil)))
theorem b30_eq : b30 = .cons (.ite nC1 (.cons (.ret (.cst (.bl false))) .nil) .nil) (.cons nPar (.cons (.ite nC2 (.cons (.ret nR1) .nil) .nil) (.cons (.ret nR2) .nil))) := rfl
theorem note_head (n : Nat) (w : List Nat) (r : List Val) (M : Store) (hr : ∀ y ∈ r, inM M y) : exs ⟨call pg (n + 1), pg.repr, pg.eqx, pg.sub⟩ b30 [some (.tup (.str w :: r)), none, none] M =
    exs ⟨call pg (n + 1), pg.repr, pg.eqx, pg.sub⟩ (.cons (.ite nC2 (.cons (.ret nR1) .nil) .nil) (.cons (.ret nR2) .nil)) [some (.tup (.str w :: r)), some (.str w), some (.tup r)] M := by
  rw [b30_eq]
  obtain ⟨cf, hcf⟩ : ∃ cf : Cf, cf = ⟨call pg (n + 1), pg.repr, pg.eqx, pg.sub⟩ := ⟨_, rfl⟩
  have hcall : cf.call = call pg (n + 1) := by rw [hcf]
  rw [← hcf]
  have wf : wfT M (.tup (.str w :: r)) := ⟨trivial, fun xs e y hy => by
    cases e
    rcases List.mem_cons.mp hy with rfl | hy
    · trivial
    · exact hr y hy⟩
  have e1 : ev cf nC1 [some (.tup (.str w :: r)), none, none] M = .ok (.bl false) M := by
    unfold nC1
    rw [not_s (k := true) (by rw [call_1 (x := .tup (.str w :: r)) (M1 := M) (by rw [s_var] <;> rfl), hcall, c_worded n _ M wf]; rfl)]
    rfl
  have e2 : ex cf nPar [some (.tup (.str w :: r)), none, none] M = .nx [some (.tup (.str w :: r)), some (.str w), some (.tup r)] M := by
    simp [nPar, ixV, first, slV, cut_tail]
  rw [seq_nx (by rw [ite_f e1, xs_nil]), seq_nx e2]
theorem note_form (n : Nat) (w : List Nat) (r parts : List Val) (M : Store) (hr : ∀ y ∈ r, inM M y) (hw : (w == wStand) = false) (h1 : tabIn pg.eqx "NOTE_FORMS" (.str w) = some true) (h2 : tabGet pg.eqx "NOTE_FORMS" (.str w) = some (.tup parts))
    (h3 : call pg (n + 1) 27 [.tup r, .tup parts] M = .ok (.bl true) M) : call pg (n + 2) 30 [.tup (.str w :: r)] M = .ok (.bl true) M := by
  rw [call_s pg (n + 1) 30 _ _ ⟨1, 3, b30⟩ rfl rfl]
  refine back_s ?_
  show exs ⟨call pg (n + 1), pg.repr, pg.eqx, pg.sub⟩ b30 [some (.tup (.str w :: r)), none, none] M = _
  rw [note_head n w r M hr]
  have e1 : ev ⟨call pg (n + 1), pg.repr, pg.eqx, pg.sub⟩ nC2 [some (.tup (.str w :: r)), some (.str w), some (.tup r)] M = .ok (.bl false) M := by
    unfold nC2
    exact cmp_s (x := .str w) (y := .str wStand) (M1 := M) (M2 := M) (by rw [s_var] <;> rfl) (by rw [s_cst] <;> rfl) (by rw [eq_str, hw])
  rw [seq_nx (by rw [ite_f e1, xs_nil])]
  refine seq_ret (ret_s ?_)
  unfold nR2
  rw [and_t (M1 := M) (by
    rw [s_tin, s_var]
    show (Res.ok (Val.str w) M).bind _ = _
    rw [Res.bind_ok]
    show ofOpt ((tabIn pg.eqx "NOTE_FORMS" (.str w)).map fun k => Val.bl (if false = true then !k else k)) M = _
    rw [h1]
    rfl)]
  rw [call_2 (x := .tup r) (y := .tup parts) (M1 := M) (M2 := M) (by rw [s_var] <;> rfl) (by
    rw [s_tget, s_var]
    show (Res.ok (Val.str w) M).bind _ = _
    rw [Res.bind_ok]
    show ofOpt (tabGet pg.eqx "NOTE_FORMS" (.str w)) M = _
    rw [h2]
    rfl)]
  exact h3
theorem note_boot (n : Nat) (M : Store) : call pg (n + 2) 30 [.tup [.str wBoot]] M = .ok (.bl true) M :=
  note_form n wBoot [] [] M (fun y hy => by cases hy) rfl rfl rfl (form_run n [] [] M rfl (by simp) fun z hz => by cases hz)
theorem note_settled (n : Nat) {k : Int} (hk : 1 ≤ k) (M : Store) : call pg (n + 6) 30 [.tup [.str wSettled, .int k]] M = .ok (.bl true) M :=
  note_form (n + 4) wSettled [.int k] [.str [110, 117, 109, 98, 101, 114]] M (fun y hy => by
    rcases List.mem_singleton.mp hy with rfl
    trivial) rfl rfl rfl (form_run (n + 4) _ _ M rfl (by simp) fun z hz => by
      simp only [zipV, List.mem_cons, List.not_mem_nil, or_false] at hz
      subst hz
      exact ⟨_, _, rfl, by rw [part_number n (.int k) M trivial]; simp [fromB, hk]⟩)
theorem note_write (n : Nat) {s : List Nat} {base e : Val} (M : Store) (h1 : nameB0 (.str s) = true) (h2 : baseB base = true) (h3 : editB e = true) (d1 : dat 3 base) (d2 : dat 3 e) : call pg (n + 8) 30 [.tup [.str wWrite, .str s, base, e]] M = .ok (.bl true) M :=
  note_form (n + 6) wWrite [.str s, base, e] [.str [110, 97, 109, 101], .str [98, 97, 115, 101], .str [101, 100, 105, 116]] M (fun y hy => by
    simp only [List.mem_cons, List.not_mem_nil, or_false] at hy
    rcases hy with rfl | rfl | rfl
    · trivial
    · exact dat_in d1 M
    · exact dat_in d2 M) rfl rfl rfl (form_run (n + 6) _ _ M rfl (by simp) fun z hz => by
      simp only [zipV, List.mem_cons, List.not_mem_nil, or_false] at hz
      rcases hz with rfl | rfl | rfl
      · exact ⟨_, _, rfl, by rw [part_name (n + 4) (.str s) M trivial, h1]⟩
      · exact ⟨_, _, rfl, by rw [part_base n base M (dat_wf d1 M), h2]⟩
      · exact ⟨_, _, rfl, by rw [part_edit n e M (dat_wf d2 M), h3]⟩)
theorem note_stand (n : Nat) {b f : Int} {P : List Val} (M : Store) (h : ShOk b f P) : ∃ X, call pg (n + 9) 30 [.tup [.str wStand, sheetV b f P]] M = .ok (.bl true) (M ++ X) := by
  obtain ⟨X, hX⟩ := c_sheet n M h
  refine ⟨X, ?_⟩
  rw [call_s pg (n + 8) 30 _ _ ⟨1, 3, b30⟩ rfl rfl]
  refine back_s ?_
  show exs ⟨call pg (n + 8), pg.repr, pg.eqx, pg.sub⟩ b30 [some (.tup [.str wStand, sheetV b f P]), none, none] M = _
  rw [note_head (n + 7) wStand [sheetV b f P] M (fun y hy => by
    rcases List.mem_singleton.mp hy with rfl
    trivial)]
  have e1 : ev ⟨call pg (n + 8), pg.repr, pg.eqx, pg.sub⟩ nC2 [some (.tup [.str wStand, sheetV b f P]), some (.str wStand), some (.tup [sheetV b f P])] M = .ok (.bl true) M := by
    unfold nC2
    exact cmp_s (x := .str wStand) (y := .str wStand) (M1 := M) (M2 := M) (by rw [s_var] <;> rfl) (by rw [s_cst] <;> rfl) (by rw [eq_str] <;> rfl)
  refine seq_ret ?_
  rw [ite_t e1]
  refine seq_ret (ret_s ?_)
  unfold nR1
  rw [and_t (M1 := M) (by
    exact cmp_s (x := .int 1) (y := .int 1) (M1 := M) (M2 := M) (by simp [bi1, lenV]) (by rw [s_cst]) (by rw [eq_int] <;> rfl))]
  rw [call_1 (x := sheetV b f P) (M1 := M) (ix_s (x := .tup [sheetV b f P]) (y := .int 0) (M1 := M) (by rw [s_var] <;> rfl) (by rw [s_cst]) rfl)]
  exact hX
end K19
end K19PJS

section K19PKS
set_option Elab.async false
set_option linter.all false
set_option maxRecDepth 100000
namespace K19
open Mi
theorem gt_int (i j : Int) (M : Store) : cmpV .gt (.int i) (.int j) M = some (decide (j < i)) := rfl
theorem l3 : (3 : Nat) ≤ LIM := by rw [lim_val]; omega
theorem beh_boot (n : Nat) (b f : Int) (P : List Val) (M : Store) : call pg (n + 1) 31 [sheetV b f P, .tup [.str wBoot]] M = .ok (sheetV (b + 1) f P) M := by
  rw [call_s pg n 31 _ _ ⟨2, 5, b31⟩ rfl rfl]
  simp [b31, start, sheetV, put, ixV, first, eq_str, wBoot, truth, op_add, l3]
theorem beh_stand (n : Nat) (b f : Int) (P : List Val) (M : Store) (v : Val) : call pg (n + 1) 31 [sheetV b f P, .tup [.str wStand, v]] M = .ok v M := by
  rw [call_s pg n 31 _ _ ⟨2, 5, b31⟩ rfl rfl]
  have i1 : itemAt [Val.str [115, 116, 97, 110, 100], v] 1 = some v := rfl
  simp [b31, start, sheetV, put, ixV, first, eq_str, wStand, truth, i1]
theorem beh_write (n : Nat) (b f : Int) (P : List Val) (M : Store) (x y z : Val) (hl : P.length ≤ 1000) : call pg (n + 1) 31 [sheetV b f P, .tup [.str wWrite, x, y, z]] M = .ok (sheetV b (f + 1) (P ++ [.tup [.int (f + 1), x, y, z]])) M := by
  rw [call_s pg n 31 _ _ ⟨2, 5, b31⟩ rfl rfl]
  have a1 : (1 : Nat) ≤ LIM := by rw [lim_val]; omega
  have a2 : 1 + 3 ≤ LIM := by rw [lim_val]; omega
  have a3 : P.length + 1 ≤ LIM := by rw [lim_val]; omega
  simp [b31, start, sheetV, put, ixV, first, eq_str, wWrite, truth, op_add, op2, slV, cut_tail, a1, a2, a3, l3]
theorem beh_settled_no (n : Nat) (b f : Int) (P : List Val) (M : Store) (k : Int) (h : ∀ v r, P = v :: r → ∃ j xs, v = .tup (.int j :: xs) ∧ (j == k) = false) : call pg (n + 1) 31 [sheetV b f P, .tup [.str wSettled, .int k]] M = .ok (sheetV b f P) M := by
  rw [call_s pg n 31 _ _ ⟨2, 5, b31⟩ rfl rfl]
  have i1 : itemAt [Val.str [115, 101, 116, 116, 108, 101, 100], .int k] 1 = some (.int k) := rfl
  cases P with
  | nil => simp [b31, start, sheetV, put, ixV, first, eq_str, wSettled, truth, bi1, lenV, gt_int, l3]
  | cons v r =>
    obtain ⟨j, xs, rfl, hj⟩ := h v r rfl
    have hp : (0 : Int) < (r.length : Int) + 1 := by omega
    simp [b31, start, sheetV, put, ixV, first, eq_str, eq_int, wSettled, truth, bi1, lenV, gt_int, hp, i1, hj, l3]
theorem beh_settled_yes (n : Nat) (b f : Int) (P : List Val) (M : Store) (k : Int) (xs : List Val) : call pg (n + 1) 31 [sheetV b f (.tup (.int k :: xs) :: P), .tup [.str wSettled, .int k]] M = .ok (sheetV b f P) M := by
  rw [call_s pg n 31 _ _ ⟨2, 5, b31⟩ rfl rfl]
  have i1 : itemAt [Val.str [115, 101, 116, 116, 108, 101, 100], .int k] 1 = some (.int k) := rfl
  have hp : (0 : Int) < (P.length : Int) + 1 := by omega
  simp [b31, start, sheetV, put, ixV, first, eq_str, eq_int, wSettled, truth, bi1, lenV, gt_int, hp, i1, slV, cut_tail, l3]
theorem noted (n : Nat) {b f : Int} {P : List Val} {deed v : Val} (M : Store) (h : ShOk b f P) (hn : ∀ M, ∃ X, call pg (n + 9) 30 [deed] M = .ok (.bl true) (M ++ X)) (hb : ∀ M, call pg (n + 9) 31 [sheetV b f P, deed] M = .ok v M) : ∃ X, call pg (n + 10) 32 [sheetV b f P, deed] M = .ok v (M ++ X) := by
  obtain ⟨X1, e1⟩ := c_sheet (n + 1) M h
  obtain ⟨X2, e2⟩ := hn (M ++ X1)
  refine ⟨X1 ++ X2, ?_⟩
  rw [call_s pg (n + 9) 32 _ _ ⟨2, 2, b32⟩ rfl rfl]
  refine back_s ?_
  show exs ⟨call pg (n + 9), pg.repr, pg.eqx, pg.sub⟩ b32 [some (sheetV b f P), some deed] M = _
  unfold b32
  rw [seq_nx (by rw [ite_f (not_s (k := true) (by rw [call_1 (x := sheetV b f P) (M1 := M) (by rw [s_var] <;> rfl)]; exact e1)), xs_nil])]
  rw [seq_nx (by rw [ite_f (not_s (k := true) (by rw [call_1 (x := deed) (M1 := M ++ X1) (by rw [s_var] <;> rfl)]; exact e2)), xs_nil])]
  refine seq_ret (ret_s ?_)
  rw [call_2 (x := sheetV b f P) (y := deed) (M1 := M ++ X1 ++ X2) (M2 := M ++ X1 ++ X2) (by rw [s_var] <;> rfl) (by rw [s_var] <;> rfl), ← List.append_assoc]
  exact hb _
end K19
end K19PKS

section K19PLS
set_option Elab.async false
set_option linter.all false
set_option maxRecDepth 100000
namespace Mi
theorem sl_list {cf : Cf} {σ : St} {M M1 : Store} {a : E} {xs : List Val} (h : ev cf a σ M = .ok (.tup xs) M1) : evL cf (.list a) σ M = .ok xs M1 := by
  rw [evL, h, Res.bind_ok]
end Mi
namespace K19
open Mi
def kBoot : Val := .str [98, 111, 111, 116]
def kFirst : Val := .str [102, 105, 114, 115, 116]
def kWritten : Val := .str [119, 114, 105, 116, 116, 101, 110]
def kGone : Val := .str [103, 111, 110, 101]
def accL (b f : Int) (w : Nat) (g : Int) : List (Val × Val) := [(kBoot, .int b), (kFirst, .int f), (kWritten, .ref w), (kGone, .int g)]
theorem get_boot (b f : Int) (w : Nat) (g : Int) : dicGet (accL b f w g) kBoot = some (.int b) := rfl
theorem get_first (b f : Int) (w : Nat) (g : Int) : dicGet (accL b f w g) kFirst = some (.int f) := rfl
theorem get_written (b f : Int) (w : Nat) (g : Int) : dicGet (accL b f w g) kWritten = some (.ref w) := rfl
theorem get_gone (b f : Int) (w : Nat) (g : Int) : dicGet (accL b f w g) kGone = some (.int g) := rfl
theorem put_boot (b f : Int) (w : Nat) (g : Int) (x : Int) : dicPut (accL b f w g) kBoot (.int x) = accL x f w g := rfl
theorem put_first (b f : Int) (w : Nat) (g : Int) (x : Int) : dicPut (accL b f w g) kFirst (.int x) = accL b x w g := rfl
theorem put_gone (b f : Int) (w : Nat) (g : Int) (x : Int) : dicPut (accL b f w g) kGone (.int x) = accL b f w x := rfl
/-- the account's place, its list's place, the list, what is gone -/
structure AccAt (T : Store) (r w : Nat) (b f g : Int) (W : List Val) : Prop where
  d : T[r]? = some (.dic (accL b f (w + 3) g))
  l : T[w]? = some (.lst W)
  g0 : 0 ≤ g
  g1 : g ≤ W.length
theorem AccAt.ne {T : Store} {r w : Nat} {b f g : Int} {W : List Val} (h : AccAt T r w b f g W) : r ≠ w := fun e => by
  subst e
  have := h.d.symm.trans h.l
  cases this
theorem AccAt.app {T : Store} {r w : Nat} {b f g : Int} {W : List Val} (h : AccAt T r w b f g W) (X : Store) : AccAt (T ++ X) r w b f g W := by
  refine ⟨?_, ?_, h.g0, h.g1⟩
  · rw [List.getElem?_append_left (List.getElem?_eq_some_iff.mp h.d).1]; exact h.d
  · rw [List.getElem?_append_left (List.getElem?_eq_some_iff.mp h.l).1]; exact h.l
theorem AccAt.put {T : Store} {r w : Nat} {b f g : Int} {W : List Val} (h : AccAt T r w b f g W) (b' f' g' : Int) (h0 : 0 ≤ g') (h1 : g' ≤ W.length) : AccAt (T.set r (.dic (accL b' f' (w + 3) g'))) r w b' f' g' W := by
  refine ⟨?_, ?_, h0, h1⟩
  · rw [List.getElem?_set_self (List.getElem?_eq_some_iff.mp h.d).1]
  · rw [List.getElem?_set_ne h.ne]; exact h.l
theorem AccAt.more {T : Store} {r w : Nat} {b f g : Int} {W : List Val} (h : AccAt T r w b f g W) (v : Val) : AccAt (T.set w (.lst (W ++ [v]))) r w b f g (W ++ [v]) := by
  refine ⟨?_, ?_, h.g0, ?_⟩
  · rw [List.getElem?_set_ne (fun e => h.ne e.symm)]; exact h.d
  · rw [List.getElem?_set_self (List.getElem?_eq_some_iff.mp h.l).1]
  · have := h.g1
    rw [List.length_append]
    have e : (([v] : List Val).length : Nat) = 1 := rfl
    omega
/-- a new account -/
theorem account (n : Nat) {ns : List Int} {T M : Store} (h : S1 ns T M) (b f : Int) (P : List Val) : ∃ X r w, call pg (n + 1) 33 [sheetV b f P] M = .ok (.ref (r + 3)) (M ++ X) ∧ AccAt (T ++ X) r w b f 0 P := by
  refine ⟨[.lst P, .dic (accL b f (T.length + 3) 0)], T.length + 1, T.length, ?_, ?_⟩
  · rw [call_s pg n 33 _ _ ⟨1, 1, b33⟩ rfl rfl]
    refine back_s ?_
    show exs ⟨call pg n, pg.repr, pg.eqx, pg.sub⟩ b33 [some (sheetV b f P)] M = _
    obtain ⟨cf, hcf⟩ : ∃ cf : Cf, cf = ⟨call pg n, pg.repr, pg.eqx, pg.sub⟩ := ⟨_, rfl⟩
    rw [← hcf]
    have a0 : ∀ M, ev cf (.ix (.var 0) (.cst (.int 0))) [some (sheetV b f P)] M = .ok (.int b) M := fun M => ix_s (x := sheetV b f P) (y := .int 0) (by rw [s_var] <;> rfl) (by rw [s_cst]) rfl
    have a1 : ∀ M, ev cf (.ix (.var 0) (.cst (.int 1))) [some (sheetV b f P)] M = .ok (.int f) M := fun M => ix_s (x := sheetV b f P) (y := .int 1) (by rw [s_var] <;> rfl) (by rw [s_cst]) rfl
    have a2 : ∀ M, ev cf (.ix (.var 0) (.cst (.int 2))) [some (sheetV b f P)] M = .ok (.tup P) M := fun M => ix_s (x := sheetV b f P) (y := .int 2) (by rw [s_var] <;> rfl) (by rw [s_cst]) rfl
    unfold b33
    refine seq_ret (ret_s ?_)
    have e := disp_c (cf := cf) (σ := [some (sheetV b f P)]) (M := M) (a := .cst kBoot) (by rw [s_cst]) (disp_c (a0 M) (disp_c (a := .cst kFirst) (by rw [s_cst]) (disp_c (a1 M) (disp_c (a := .cst kWritten) (by rw [s_cst]) (disp_c (lst_s (sl_list (a2 M))) (disp_c (a := .cst kGone) (by rw [s_cst]) (disp_1 (a := .cst (.int 0)) (by rw [s_cst]))))))))
    rw [s_dic]
    simp only [kBoot, kFirst, kWritten, kGone] at e
    have hk : keysOk (pairUp [Val.str [98, 111, 111, 116], Val.int b, Val.str [102, 105, 114, 115, 116], Val.int f, Val.str [119, 114, 105, 116, 116, 101, 110], Val.ref (List.length M), Val.str [103, 111, 110, 101], Val.int 0]) = true := rfl
    rw [e, Res.bind_ok, if_pos hk]
    have hl : (M ++ [Obj.lst P]).length = T.length + 1 + 3 := by rw [List.length_append, h.len]; rfl
    rw [hl, h.len, List.append_assoc]
    rfl
  · refine ⟨?_, ?_, Int.le_refl _, by omega⟩
    · rw [List.getElem?_append_right (by omega)]
      rw [show T.length + 1 - T.length = 1 by omega]
      rfl
    · rw [List.getElem?_append_right (by omega)]
      rw [show T.length - T.length = 0 by omega]
      rfl
theorem cut_from (W : List Val) {g : Int} (h0 : 0 ≤ g) (h1 : g ≤ W.length) : cut W (some g) none = W.drop g.toNat := by
  have e : min g.toNat W.length = g.toNat := by omega
  unfold cut bound
  simp only
  rw [if_neg (by omega), e]
  refine List.take_of_length_le ?_
  rw [List.length_drop]
  omega
section
variable {cf : Cf} {σ : St} {ns : List Int} {T M : Store} {r w : Nat} {b f g : Int} {W : List Val} {i : Nat}
theorem a_boot (h : S1 ns T M) (a : AccAt T r w b f g W) (hi : σ[i]? = some (some (.ref (r + 3)))) : ev cf (.ix (.var i) (.cst kBoot)) σ M = .ok (.int b) M :=
  ix_s (x := .ref (r + 3)) (y := kBoot) (by rw [s_var, hi]) (by rw [s_cst]) (by show (match M[r + 3]? with | some (.lst xs) => _ | some (.dic kvs) => dicGet kvs kBoot | _ => none) = _; rw [h.get, a.d, ]; exact get_boot _ _ _ _)
theorem a_first (h : S1 ns T M) (a : AccAt T r w b f g W) (hi : σ[i]? = some (some (.ref (r + 3)))) : ev cf (.ix (.var i) (.cst kFirst)) σ M = .ok (.int f) M :=
  ix_s (x := .ref (r + 3)) (y := kFirst) (by rw [s_var, hi]) (by rw [s_cst]) (by show (match M[r + 3]? with | some (.lst xs) => _ | some (.dic kvs) => dicGet kvs kFirst | _ => none) = _; rw [h.get, a.d]; exact get_first _ _ _ _)
theorem a_written (h : S1 ns T M) (a : AccAt T r w b f g W) (hi : σ[i]? = some (some (.ref (r + 3)))) : ev cf (.ix (.var i) (.cst kWritten)) σ M = .ok (.ref (w + 3)) M :=
  ix_s (x := .ref (r + 3)) (y := kWritten) (by rw [s_var, hi]) (by rw [s_cst]) (by show (match M[r + 3]? with | some (.lst xs) => _ | some (.dic kvs) => dicGet kvs kWritten | _ => none) = _; rw [h.get, a.d]; exact get_written _ _ _ _)
theorem a_gone (h : S1 ns T M) (a : AccAt T r w b f g W) (hi : σ[i]? = some (some (.ref (r + 3)))) : ev cf (.ix (.var i) (.cst kGone)) σ M = .ok (.int g) M :=
  ix_s (x := .ref (r + 3)) (y := kGone) (by rw [s_var, hi]) (by rw [s_cst]) (by show (match M[r + 3]? with | some (.lst xs) => _ | some (.dic kvs) => dicGet kvs kGone | _ => none) = _; rw [h.get, a.d]; exact get_gone _ _ _ _)
/-- what is left: a new list -/
theorem a_left (h : S1 ns T M) (a : AccAt T r w b f g W) (hi : σ[i]? = some (some (.ref (r + 3)))) : ev cf (.sl (.ix (.var i) (.cst kWritten)) (.some (.ix (.var i) (.cst kGone))) .none) σ M = .ok (.ref (T.length + 3)) (M ++ [.lst (W.drop g.toNat)]) := by
  rw [s_sl, a_written h a hi, Res.bind_ok, so_some, a_gone h a hi, Res.bind_ok, Res.bind_ok, so_none, Res.bind_ok]
  show (match M[w + 3]? with | some (.lst xs) => Res.ok (Val.ref M.length) (M ++ [Obj.lst (cut xs (some g) none)]) | _ => .bad) = _
  rw [h.get, a.l]
  simp only [cut_from W a.g0 a.g1, h.len]
theorem a_six (h : S1 ns T M) (a : AccAt T r w b f g W) (hi : σ[i]? = some (some (.ref (r + 3)))) {k : Val} {e : E} {x : Val} {kvs : List (Val × Val)} (he : ev cf e σ M = .ok x M) (hk : keyV k = true) (hp : dicPut (accL b f (w + 3) g) k x = kvs) : ex cf (.six (.var i) (.cst k) e) σ M = .nx σ (M.set (r + 3) (.dic kvs)) := by
  rw [x_six, he, Out.on_ok, s_var, hi]
  show Out.on (Res.ok (Val.ref (r + 3)) M) σ _ = _
  rw [Out.on_ok, s_cst, Out.on_ok]
  show (match M[r + 3]? with | some (.lst xs) => _ | some (.dic kvs) => if keyV k && decide (kvs.length < LIM) then Out.nx σ (M.set (r + 3) (.dic (dicPut kvs k x))) else .bad | _ => .bad) = _
  rw [h.get, a.d]
  have hl : decide ((accL b f (w + 3) g).length < LIM) = true := decide_eq_true (by rw [lim_val]; show 4 < 16777216; decide)
  simp only [hk, hl, hp, Bool.and_self, if_true]
end
/-- the sheet by the account -/
theorem sheet_of (n : Nat) {ns : List Int} {T M : Store} {r w : Nat} {b f g : Int} {W : List Val} (h : S1 ns T M) (a : AccAt T r w b f g W) : call pg (n + 1) 34 [.ref (r + 3)] M = .ok (sheetV b f (W.drop g.toNat)) (M ++ [.lst (W.drop g.toNat)]) := by
  rw [call_s pg n 34 _ _ ⟨1, 1, b34⟩ rfl rfl]
  refine back_s ?_
  show exs ⟨call pg n, pg.repr, pg.eqx, pg.sub⟩ b34 [some (.ref (r + 3))] M = _
  obtain ⟨cf, hcf⟩ : ∃ cf : Cf, cf = ⟨call pg n, pg.repr, pg.eqx, pg.sub⟩ := ⟨_, rfl⟩
  rw [← hcf]
  unfold b34
  refine seq_ret (ret_s ?_)
  have e3 : ev cf (.bi .tuple (.sl (.ix (.var 0) (.cst kWritten)) (.some (.ix (.var 0) (.cst kGone))) .none)) [some (.ref (r + 3))] M = .ok (.tup (W.drop g.toNat)) (M ++ [.lst (W.drop g.toNat)]) := by
    rw [s_bi, a_left h a (by rfl), Res.bind_ok]
    show (match (M ++ [Obj.lst (W.drop g.toNat)])[T.length + 3]? with | some (.lst xs) => Res.ok (Val.tup xs) _ | _ => .bad) = _
    rw [← h.len]
    simp
  have e := disp_c (a_boot (cf := cf) (σ := [some (.ref (r + 3))]) (i := 0) h a rfl) (disp_c (a_first h a (i := 0) rfl) (disp_1 e3))
  exact tup_s e (by simp)
end K19
end K19PLS

section K19PMS
set_option Elab.async false
set_option linter.all false
set_option maxRecDepth 100000
namespace K19
open Mi
/-! ### sheets that change -/
theorem ShOk.boot {b f : Int} {P : List Val} (h : ShOk b f P) : ShOk (b + 1) f P := ⟨by have := h.b0; omega, h.f0, h.f1, h.len, h.le, h.ws⟩
theorem ShOk.tail {b f : Int} {v : Val} {P : List Val} (h : ShOk b f (v :: P)) : ShOk b f P := by
  have h1 := h.len
  have h2 := h.le
  rw [List.length_cons] at h1 h2
  refine ⟨h.b0, h.f0, h.f1, by omega, by omega, ?_⟩
  have := h.ws.2
  rw [List.length_cons] at this
  rw [show f - (P.length : Int) + 1 = f - ((P.length + 1 : Nat) : Int) + 1 + 1 by omega]
  exact this
theorem ShOk.more {b f : Int} {P : List Val} {v : Val} (h : ShOk b f P) (hf : f + 1 < 2 ^ 40) (hl : P.length < 900) (hv : wrOk (f + 1) v) : ShOk b (f + 1) (P ++ [v]) := by
  have h2 := h.le
  have h3 := h.f0
  have e : (P ++ [v]).length = P.length + 1 := by simp
  refine ⟨h.b0, by omega, hf, by omega, by omega, ?_⟩
  rw [e]
  have hw := h.ws
  refine wrs_app ?_ ?_
  · rw [show f + 1 - ((P.length + 1 : Nat) : Int) + 1 = f - (P.length : Int) + 1 by omega]
    exact hw
  · rw [show f + 1 - ((P.length + 1 : Nat) : Int) + 1 + (P.length : Int) = f + 1 by omega]
    exact hv
theorem ShOk.head {b f : Int} {v : Val} {P : List Val} (h : ShOk b f (v :: P)) : ∃ xs, v = .tup (.int (f - P.length) :: xs) := by
  obtain ⟨s, base, e, hv, _⟩ := h.ws.1
  rw [List.length_cons, show f - ((P.length + 1 : Nat) : Int) + 1 = f - (P.length : Int) by omega] at hv
  exact ⟨[.str s, base, e], hv⟩
theorem wrs_last : ∀ {i : Int} {P : List Val}, wrs i P → 0 < P.length → ∃ v xs, P[P.length - 1]? = some v ∧ v = .tup (.int (i + P.length - 1) :: xs)
  | i, [p], h, _ => by
    obtain ⟨s, base, e, rfl, _⟩ := h.1
    exact ⟨_, [.str s, base, e], rfl, by rw [show i + (([.tup [.int i, .str s, base, e]] : List Val).length : Nat) - 1 = i by simp]⟩
  | i, p :: q :: P, h, _ => by
    obtain ⟨v, xs, e1, e2⟩ := wrs_last h.2 (by simp)
    refine ⟨v, xs, ?_, ?_⟩
    · simp only [List.length_cons] at e1 ⊢
      simpa using e1
    · rw [e2]
      congr 3
      simp
      omega
theorem ShOk.last {b f : Int} {P : List Val} (h : ShOk b f P) (h0 : 0 < P.length) : ∃ v xs, itemAt P (-1) = some v ∧ v = .tup (.int f :: xs) := by
  obtain ⟨v, xs, e1, e2⟩ := wrs_last h.ws h0
  refine ⟨v, xs, ?_, ?_⟩
  · unfold itemAt place
    rw [if_neg (by omega), if_pos (by omega)]
    show P[((-1 : Int) + (P.length : Int)).toNat]? = _
    rw [show ((-1 : Int) + (P.length : Int)).toNat = P.length - 1 by omega]
    exact e1
  · rw [e2, show f - (P.length : Int) + 1 + (P.length : Int) - 1 = f by omega]
/-! ### noting -/
section
variable (n : Nat) {b f : Int} {P : List Val} (M : Store)
theorem noted_boot (h : ShOk b f P) : ∃ X, call pg (n + 10) 32 [sheetV b f P, .tup [.str wBoot]] M = .ok (sheetV (b + 1) f P) (M ++ X) :=
  noted n M h (fun M => ⟨[], by rw [List.append_nil]; exact note_boot (n + 7) M⟩) fun M => beh_boot (n + 8) b f P M
theorem noted_no (h : ShOk b f P) {k : Int} (hk : 1 ≤ k) (hk2 : ∀ v r, P = v :: r → f - r.length ≠ k) : ∃ X, call pg (n + 10) 32 [sheetV b f P, .tup [.str wSettled, .int k]] M = .ok (sheetV b f P) (M ++ X) :=
  noted n M h (fun M => ⟨[], by rw [List.append_nil]; exact note_settled (n + 3) hk M⟩) fun M => beh_settled_no (n + 8) b f P M k fun v r e => by
    subst e
    obtain ⟨xs, e⟩ := h.head
    exact ⟨f - r.length, xs, e, by simpa using hk2 v r rfl⟩
theorem noted_yes {v : Val} (h : ShOk b f (v :: P)) : ∃ X, call pg (n + 10) 32 [sheetV b f (v :: P), .tup [.str wSettled, .int (f - P.length)]] M = .ok (sheetV b f P) (M ++ X) := by
  obtain ⟨xs, e⟩ := h.head
  have hle := h.le
  rw [List.length_cons] at hle
  refine noted n M h (fun M => ⟨[], by rw [List.append_nil]; exact note_settled (n + 3) (by omega) M⟩) fun M => ?_
  rw [e]
  exact beh_settled_yes (n + 8) b f P M _ xs
theorem noted_write (h : ShOk b f P) {s : List Nat} {base e : Val} (h1 : nameB0 (.str s) = true) (h2 : baseB base = true) (h3 : editB e = true) (d1 : dat 3 base) (d2 : dat 3 e) : ∃ X, call pg (n + 10) 32 [sheetV b f P, .tup [.str wWrite, .str s, base, e]] M = .ok (sheetV b (f + 1) (P ++ [.tup [.int (f + 1), .str s, base, e]])) (M ++ X) :=
  noted n M h (fun M => ⟨[], by rw [List.append_nil]; exact note_write (n + 1) M h1 h2 h3 d1 d2⟩) fun M => beh_write (n + 8) b f P M _ _ _ (by have := h.len; omega)
theorem noted_stand (h : ShOk b f P) {b' f' : Int} {P' : List Val} (h' : ShOk b' f' P') : ∃ X, call pg (n + 10) 32 [sheetV b f P, .tup [.str wStand, sheetV b' f' P']] M = .ok (sheetV b' f' P') (M ++ X) :=
  noted n M h (fun M => note_stand n M h') fun M => beh_stand (n + 8) b f P M _
end
end K19
end K19PMS

section K19PNS
set_option Elab.async false
set_option linter.all false
set_option maxRecDepth 100000
namespace K19
open Mi
def dLeft : E := .sl (.ix (.var 1) (.cst kWritten)) (.some (.ix (.var 1) (.cst kGone))) .none
def dDraw (m : Int) : E := .call 12 (.cons (.var 0) (.cons (.cst (.int m)) .nil))
def dOne (m : Int) : E := .op .add (.cst (.int 1)) (dDraw m)
def dI0 : S := .ite (.cmp .eq (.var 3) (.cst (.int 0))) (.cons (.six (.var 1) (.cst kBoot) (.op .add (.ix (.var 1) (.cst kBoot)) (.cst (.int 1)))) (.cons (.ret (.tup (.cons (.cst (.str wBoot)) .nil))) .nil)) .nil
def dFar : E := .op .add (.bin .max (.cst (.int 1)) (.op .add (.ix (.var 1) (.cst kFirst)) (.call 13 (.cons (.var 0) (.cons (.lst (.disp (.cons (.neg (.cst (.int 3))) (.cons (.neg (.cst (.int 1))) (.cons (.cst (.int 1)) (.cons (.cst (.int 2)) .nil)))))) .nil))))) (.op .pow (.cst (.int 10)) (.cst (.int 6)))
def dSet (e : E) : E := .tup (.cons (.cst (.str wSettled)) (.cons e .nil))
def dI1 : S := .ite (.cmp .eq (.var 3) (.cst (.int 1))) (.cons (.ret (dSet dFar)) .nil) .nil
def dI2 : S := .ite (.and (.cmp .lt (.var 3) (.cst (.int 6))) (.cmp .ne (.var 2) (.lst (.disp .nil)))) (.cons (.six (.var 1) (.cst kGone) (.op .add (.ix (.var 1) (.cst kGone)) (.cst (.int 1)))) (.cons (.ret (dSet (.ix (.ix (.var 2) (.cst (.int 0))) (.cst (.int 0))))) .nil)) .nil
def dI3 : S := .ite (.and (.cmp .eq (.var 3) (.cst (.int 6))) (.cmp .gt (.bi .len (.var 2)) (.cst (.int 1)))) (.cons (.ret (dSet (.ix (.ix (.var 2) (.neg (.cst (.int 1)))) (.cst (.int 0))))) .nil) .nil
def dBases : Es := .cons (.cst .non) (.cons (.tup (.cons (.cst (.int 0)) (.cons (.cst (.int 0)) (.cons (.cst (.int 0)) .nil)))) (.cons (.tup (.cons (dOne 9) (.cons (dOne 9) (.cons (dOne 9) .nil)))) .nil))
def dBase : E := .call 13 (.cons (.var 0) (.cons (.lst (.disp dBases)) .nil))
def dDeed : E := .tup (.cons (.cst (.str wWrite)) (.cons (.call 17 (.cons (.var 0) .nil)) (.cons (.var 4) (.cons (.call 18 (.cons (.var 0) .nil)) .nil))))
def dFirst : S := .six (.var 1) (.cst kFirst) (.op .add (.ix (.var 1) (.cst kFirst)) (.cst (.int 1)))
def dNew : E := .op .add (.tup (.cons (.ix (.var 1) (.cst kFirst)) .nil)) (.sl (.var 5) (.some (.cst (.int 1))) .none)
def dApp : E := .mtd .append (.ix (.var 1) (.cst kWritten)) (.cons dNew .nil)
def dTail : Ss := .cons (.set 4 dBase) (.cons (.set 5 dDeed) (.cons dFirst (.cons (.expr dApp) (.cons (.ret (.var 5)) .nil))))
theorem b35_eq : b35 = .cons (.set 2 dLeft) (.cons (.set 3 (dDraw 12)) (.cons dI0 (.cons dI1 (.cons dI2 (.cons dI3 dTail))))) := rfl
section
variable {n : Nat} {σ : St} {ns : List Int} {T M : Store}
theorem e_draw (m : Int) (hm : 0 < m) (hm2 : m < 2 ^ 64) (h : S1 ns T M) (hi : σ[0]? = some (some (.ref 2))) : ∃ r M', 0 ≤ r ∧ r < m ∧ ev ⟨call pg (n + 1), pg.repr, pg.eqx, pg.sub⟩ (dDraw m) σ M = .ok (.int r) M' ∧ S1 ns T M' := by
  obtain ⟨r, M', h0, h1, e, h'⟩ := draw n m hm hm2 h
  exact ⟨r, M', h0, h1, by unfold dDraw; rw [call_2 (x := .ref 2) (y := .int m) (M1 := M) (M2 := M) (by rw [s_var, hi]) (by rw [s_cst])]; exact e, h'⟩
theorem e_one (m : Int) (hm : 0 < m) (hm2 : m < 2 ^ 64) (h : S1 ns T M) (hi : σ[0]? = some (some (.ref 2))) : ∃ r M', 1 ≤ r ∧ r ≤ m ∧ ev ⟨call pg (n + 1), pg.repr, pg.eqx, pg.sub⟩ (dOne m) σ M = .ok (.int r) M' ∧ S1 ns T M' := by
  obtain ⟨r, M', h0, h1, e, h'⟩ := e_draw (n := n) m hm hm2 h hi
  exact ⟨1 + r, M', by omega, by omega, op_s (x := .int 1) (M1 := M) (by rw [s_cst]) e op_add, h'⟩
theorem e_anyD (es : Es) {xs : List Val} {M1 : Store} (hi : σ[0]? = some (some (.ref 2))) (he : evs ⟨call pg (n + 2), pg.repr, pg.eqx, pg.sub⟩ es σ M = .ok xs M1) (h : S1 ns T M1) (h0 : 0 < xs.length) (h1 : xs.length ≤ 1000) : ∃ x M', x ∈ xs ∧ ev ⟨call pg (n + 2), pg.repr, pg.eqx, pg.sub⟩ (.call 13 (.cons (.var 0) (.cons (.lst (.disp es)) .nil))) σ M = .ok x M' ∧ S1 ns (T ++ [.lst xs]) M' := by
  obtain ⟨x, M', hx, e, h'⟩ := anyD n xs h h0 (by omega)
  refine ⟨x, M', hx, ?_, h'⟩
  have el : ev ⟨call pg (n + 2), pg.repr, pg.eqx, pg.sub⟩ (.lst (.disp es)) σ M = .ok (.ref M1.length) (M1 ++ [.lst xs]) := lst_s (by rw [sl_disp, he, Res.bind_ok, if_pos (by rw [lim_val]; omega)])
  rw [call_2 (x := .ref 2) (M1 := M) (by rw [s_var, hi]) el]
  exact e
theorem e_base (h : S1 ns T M) (hi : σ[0]? = some (some (.ref 2))) : ∃ X x M', ev ⟨call pg (n + 2), pg.repr, pg.eqx, pg.sub⟩ dBase σ M = .ok x M' ∧ S1 ns (T ++ X) M' ∧ baseB x = true ∧ dat 3 x := by
  obtain ⟨r1, M1, a0, a1, e1, h1⟩ := e_one (n := n + 1) 9 (by decide) (by decide) h hi
  obtain ⟨r2, M2, b0, b1, e2, h2⟩ := e_one (n := n + 1) 9 (by decide) (by decide) h1 hi
  obtain ⟨r3, M3, c0, c1, e3, h3⟩ := e_one (n := n + 1) 9 (by decide) (by decide) h2 hi
  have t0 : ∀ M, ev ⟨call pg (n + 2), pg.repr, pg.eqx, pg.sub⟩ (.tup (.cons (.cst (.int 0)) (.cons (.cst (.int 0)) (.cons (.cst (.int 0)) .nil)))) σ M = .ok (.tup [.int 0, .int 0, .int 0]) M := fun M => tup_s (disp_c (by rw [s_cst]) (disp_c (by rw [s_cst]) (disp_1 (by rw [s_cst])))) (by decide)
  have t1 := tup_s (disp_c e1 (disp_c e2 (disp_1 e3))) (by simp)
  have es := disp_c (cf := ⟨call pg (n + 2), pg.repr, pg.eqx, pg.sub⟩) (σ := σ) (M := M) (a := .cst .non) (by rw [s_cst]) (disp_c (t0 M) (disp_1 t1))
  obtain ⟨x, M', hx, e, h'⟩ := e_anyD dBases hi es h3 (by simp) (by simp)
  refine ⟨_, x, M', e, h', ?_⟩
  simp only [List.mem_cons, List.not_mem_nil, or_false] at hx
  rcases hx with rfl | rfl | rfl
  · exact ⟨rfl, trivial⟩
  · exact ⟨by decide, by simp [dat]⟩
  · refine ⟨?_, by simp [dat]⟩
    simp [baseB, stampB, isNon, fromB, cliB, a0, b0, b1, c0]
end
end K19
end K19PNS

section K19POS
set_option Elab.async false
set_option linter.all false
set_option maxRecDepth 100000
namespace K19
open Mi
/-- what a deed comes to -/
structure DidOk (ns : List Int) (r w : Nat) (b f g : Int) (W : List Val) (deed : Val) (M' : Store) : Prop where
  go : ∃ T' b' f' g' W', S1 ns T' M' ∧ AccAt T' r w b' f' g' W' ∧ ShOk b' f' (W'.drop g'.toNat) ∧ f' ≤ f + 1 ∧ W'.length ≤ W.length + 1 ∧
    ∀ k M, ∃ X, call pg (k + 10) 32 [sheetV b f (W.drop g.toNat), deed] M = .ok (sheetV b' f' (W'.drop g'.toNat)) (M ++ X)
theorem drop_more (W : List Val) {g : Int} (h0 : 0 ≤ g) (h1 : g ≤ W.length) (v : Val) : (W ++ [v]).drop g.toNat = W.drop g.toNat ++ [v] := by
  rw [List.drop_append_of_le_length (by omega)]
theorem drop_tail {W : List Val} {g : Int} (h0 : 0 ≤ g) {v : Val} {P : List Val} (h : W.drop g.toNat = v :: P) : W.drop (g + 1).toNat = P ∧ g + 1 ≤ W.length := by
  have e : (g + 1).toNat = g.toNat + 1 := by omega
  have hl : (W.drop g.toNat).length = P.length + 1 := by rw [h]; rfl
  rw [List.length_drop] at hl
  refine ⟨?_, by omega⟩
  rw [e, ← List.drop_drop, h]
  rfl
section
variable {n : Nat} {ns : List Int} {T M : Store} {r w : Nat} {b f g : Int} {W : List Val}
theorem did_write (x2 x3 : Option Val) (h : S1 ns T M) (a : AccAt T r w b f g W) (sh : ShOk b f (W.drop g.toNat)) (hf : f + 1 < 2 ^ 40) (hW : W.length < 900) :
    ∃ deed M', exs ⟨call pg (n + 4), pg.repr, pg.eqx, pg.sub⟩ dTail [some (.ref 2), some (.ref (r + 3)), x2, x3, none, none] M = .ret deed M' ∧ DidOk ns r w b f g W deed M' := by
  obtain ⟨X1, base, M1, e1, h1, q1, d1⟩ := e_base (n := n + 2) (σ := [some (.ref 2), some (.ref (r + 3)), x2, x3, none, none]) h rfl
  obtain ⟨X2, s, M2, e2, h2, q2⟩ := name (n + 1) h1
  obtain ⟨X3, e, M3, e3, h3, q3, d3⟩ := edit n h2
  have a3 : AccAt (T ++ X1 ++ X2 ++ X3) r w b f g W := ((a.app X1).app X2).app X3
  obtain ⟨T3, hT3⟩ : ∃ T3, T3 = T ++ X1 ++ X2 ++ X3 := ⟨_, rfl⟩
  rw [← hT3] at h3 a3
  obtain ⟨deed, hdeed⟩ : ∃ deed : Val, deed = .tup [.str wWrite, .str s, base, e] := ⟨_, rfl⟩
  obtain ⟨v, hv⟩ : ∃ v : Val, v = .tup [.int (f + 1), .str s, base, e] := ⟨_, rfl⟩
  have a4 := a3.put b (f + 1) g a3.g0 a3.g1
  have h4 := h3.set r (.dic (accL b (f + 1) (w + 3) g))
  obtain ⟨M4, hM4⟩ : ∃ M4, M4 = M3.set (r + 3) (.dic (accL b (f + 1) (w + 3) g)) := ⟨_, rfl⟩
  rw [← hM4] at h4
  have a5 := a4.more v
  have h5 := h4.set w (.lst (W ++ [v]))
  refine ⟨deed, M4.set (w + 3) (.lst (W ++ [v])), ?_, ⟨_, b, f + 1, g, W ++ [v], h5, a5, ?_, by omega, by simp, fun k M => ?_⟩⟩
  · unfold dTail
    rw [seq_nx (set_s e1)]
    show exs _ _ [some (.ref 2), some (.ref (r + 3)), x2, x3, some base, none] M1 = _
    have ed : ev ⟨call pg (n + 4), pg.repr, pg.eqx, pg.sub⟩ dDeed [some (.ref 2), some (.ref (r + 3)), x2, x3, some base, none] M1 = .ok deed M3 := by
      unfold dDeed
      rw [hdeed]
      exact tup_s (disp_c (by rw [s_cst]) (disp_c (by rw [call_1 (x := .ref 2) (M1 := M1) (by rw [s_var] <;> rfl)]; exact e2) (disp_c (x := base) (M1 := M2) (by rw [s_var] <;> rfl) (disp_1 (by rw [call_1 (x := .ref 2) (M1 := M2) (by rw [s_var] <;> rfl)]; exact e3))))) (by simp)
    rw [seq_nx (set_s ed)]
    show exs _ _ [some (.ref 2), some (.ref (r + 3)), x2, x3, some base, some deed] M3 = _
    obtain ⟨σ, hσ⟩ : ∃ σ : St, σ = [some (.ref 2), some (.ref (r + 3)), x2, x3, some base, some deed] := ⟨_, rfl⟩
    have v1 : σ[1]? = some (some (.ref (r + 3))) := by rw [hσ] <;> rfl
    have v5 : σ[5]? = some (some deed) := by rw [hσ] <;> rfl
    rw [← hσ]
    have ef : ex ⟨call pg (n + 4), pg.repr, pg.eqx, pg.sub⟩ dFirst σ M3 = .nx σ M4 := by
      unfold dFirst
      rw [hM4]
      have eo : ev ⟨call pg (n + 4), pg.repr, pg.eqx, pg.sub⟩ (.op .add (.ix (.var 1) (.cst kFirst)) (.cst (.int 1))) σ M3 = .ok (.int (f + 1)) M3 := op_s (a_first h3 a3 v1) (y := .int 1) (M2 := M3) (by rw [s_cst]) op_add
      exact a_six h3 a3 v1 eo rfl (put_first _ _ _ _ _)
    rw [seq_nx ef]
    have en : ev ⟨call pg (n + 4), pg.repr, pg.eqx, pg.sub⟩ dNew σ M4 = .ok v M4 := by
      unfold dNew
      refine op_s (tup_s (disp_1 (a_first h4 a4 v1)) (by simp)) (y := .tup [.str s, base, e]) (M2 := M4) ?_ ?_
      · rw [s_sl, s_var, v5]
        show (Res.ok deed M4).bind _ = _
        rw [Res.bind_ok, so_some, s_cst, Res.bind_ok, Res.bind_ok, so_none, Res.bind_ok, hdeed]
        show Res.ok (Val.tup (cut _ _ _)) M4 = _
        rw [cut_tail]
      · rw [hv]
        have hh : 1 + 3 ≤ LIM := by rw [lim_val]; omega
        show (if 1 + 3 ≤ LIM then Res.ok (Val.tup ([Val.int (f + 1)] ++ [.str s, base, e])) M4 else Res.bad) = _
        rw [if_pos hh]
        rfl
    have ea : ev ⟨call pg (n + 4), pg.repr, pg.eqx, pg.sub⟩ dApp σ M4 = .ok .non (M4.set (w + 3) (.lst (W ++ [v]))) := by
      unfold dApp
      rw [s_mtd, a_written h4 a4 v1, Res.bind_ok]
      have il : isLst M4 (.ref (w + 3)) = true := by
        show (match M4[w + 3]? with | some (.lst _) => true | _ => false) = true
        rw [h4.get, a4.l]
      rw [il, if_pos rfl, disp_1 en, Res.bind_ok]
      show (match M4[w + 3]? with | some (.lst xs) => (if xs.length < LIM then Res.ok Val.non (M4.set (w + 3) (.lst (xs ++ [v]))) else Res.bad) | _ => Res.bad) = _
      rw [h4.get, a4.l]
      simp only
      rw [if_pos (by rw [lim_val]; omega)]
    rw [seq_nx (expr_s ea)]
    exact seq_ret (ret_s (by rw [s_var, v5]))
  · rw [drop_more W a.g0 a.g1]
    refine sh.more hf (by rw [List.length_drop]; omega) ?_
    exact ⟨s, base, e, hv, q2, q1, q3, d1, dat_more (by omega) d3⟩
  · rw [drop_more W a.g0 a.g1, hdeed, hv]
    exact noted_write k M sh q2 q1 q3 d1 (dat_more (by omega) d3)
end
end K19
end K19POS

section K19PPS
set_option Elab.async false
set_option linter.all false
set_option maxRecDepth 100000
namespace K19
open Mi
section
variable {n : Nat} {ns : List Int} {T M : Store} {r w : Nat} {b f g : Int} {W : List Val}
theorem e_eqc (cf : Cf) {σ : St} {i : Nat} {k : Int} (c : Int) (M : Store) (hi : σ[i]? = some (some (.int k))) : ev cf (.cmp .eq (.var i) (.cst (.int c))) σ M = .ok (.bl (k == c)) M :=
  cmp_s (x := .int k) (y := .int c) (M1 := M) (by rw [s_var, hi]) (by rw [s_cst]) (eq_int k c M)
theorem e_ltc (cf : Cf) {σ : St} {i : Nat} {k : Int} (c : Int) (M : Store) (hi : σ[i]? = some (some (.int k))) : ev cf (.cmp .lt (.var i) (.cst (.int c))) σ M = .ok (.bl (decide (k < c))) M :=
  cmp_s (x := .int k) (y := .int c) (M1 := M) (by rw [s_var, hi]) (by rw [s_cst]) rfl
/-- another sheet's account, the same list -/
theorem DidOk.stay {deed : Val} (h : S1 ns T M) (a : AccAt T r w b f g W) (sh : ShOk b f (W.drop g.toNat)) (hd : ∀ k M, ∃ X, call pg (k + 10) 32 [sheetV b f (W.drop g.toNat), deed] M = .ok (sheetV b f (W.drop g.toNat)) (M ++ X)) : DidOk ns r w b f g W deed M :=
  ⟨T, b, f, g, W, h, a, sh, by omega, by omega, hd⟩
theorem did_boot {σ : St} (h : S1 ns T M) (a : AccAt T r w b f g W) (sh : ShOk b f (W.drop g.toNat)) (cf : Cf) (v1 : σ[1]? = some (some (.ref (r + 3)))) (v3 : σ[3]? = some (some (.int 0))) (rest : Ss) :
    ∃ deed M', exs cf (.cons dI0 rest) σ M = .ret deed M' ∧ DidOk ns r w b f g W deed M' := by
  refine ⟨.tup [.str wBoot], M.set (r + 3) (.dic (accL (b + 1) f (w + 3) g)), ?_, ⟨_, b + 1, f, g, W, h.set r _, a.put (b + 1) f g a.g0 a.g1, sh.boot, by omega, by omega, fun k M => noted_boot k M sh⟩⟩
  refine seq_ret ?_
  unfold dI0
  rw [ite_t (e_eqc cf 0 M v3)]
  have eo : ev cf (.op .add (.ix (.var 1) (.cst kBoot)) (.cst (.int 1))) σ M = .ok (.int (b + 1)) M := op_s (a_boot h a v1) (y := .int 1) (M2 := M) (by rw [s_cst]) op_add
  rw [seq_nx (a_six h a v1 eo rfl (put_boot _ _ _ _ _))]
  exact seq_ret (ret_s (tup_s (disp_1 (by rw [s_cst])) (by simp)))
theorem did_far {σ : St} (h : S1 ns T M) (a : AccAt T r w b f g W) (sh : ShOk b f (W.drop g.toNat)) (v0 : σ[0]? = some (some (.ref 2))) (v1 : σ[1]? = some (some (.ref (r + 3)))) (v3 : σ[3]? = some (some (.int 1))) (rest : Ss) :
    ∃ deed M', exs ⟨call pg (n + 4), pg.repr, pg.eqx, pg.sub⟩ (.cons dI1 rest) σ M = .ret deed M' ∧ DidOk ns r w b f g W deed M' := by
  have es : evs ⟨call pg (n + 4), pg.repr, pg.eqx, pg.sub⟩ (.cons (.neg (.cst (.int 3))) (.cons (.neg (.cst (.int 1))) (.cons (.cst (.int 1)) (.cons (.cst (.int 2)) .nil)))) σ M = .ok [.int (-3), .int (-1), .int 1, .int 2] M :=
    disp_c (by rw [s_neg, s_cst, Res.bind_ok]) (disp_c (by rw [s_neg, s_cst, Res.bind_ok]) (disp_c (by rw [s_cst]) (disp_1 (by rw [s_cst]))))
  obtain ⟨x, M1, hx, e1, h1⟩ := e_anyD (n := n + 2) _ v0 es h (by simp) (by simp)
  have hk : ∃ k : Int, x = .int k ∧ -3 ≤ k ∧ k ≤ 2 := by
    simp only [List.mem_cons, List.not_mem_nil, or_false] at hx
    rcases hx with rfl | rfl | rfl | rfl <;> exact ⟨_, rfl, by decide, by decide⟩
  obtain ⟨d, rfl, d0, d1⟩ := hk
  have a1 := a.app [.lst [.int (-3), .int (-1), .int 1, .int 2]]
  obtain ⟨k, hk⟩ : ∃ k : Int, k = (if f + d > 1 then f + d else 1) + 1000000 := ⟨_, rfl⟩
  refine ⟨.tup [.str wSettled, .int k], M1, ?_, DidOk.stay h1 a1 sh fun j M => noted_no j M sh ?_ ?_⟩
  · refine seq_ret ?_
    unfold dI1
    rw [ite_t (e_eqc _ 1 M v3)]
    refine seq_ret (ret_s ?_)
    unfold dSet dFar
    refine tup_s (disp_c (by rw [s_cst]) (disp_1 ?_)) (by simp)
    have s3 : small 10 = true := by decide
    refine op_s (x := .int (if f + d > 1 then f + d else 1)) (y := .int 1000000) (M1 := M1) (M2 := M1) ?_ ?_ ?_
    · rw [s_bin, s_cst, Res.bind_ok, op_s (a_first h a v1) e1 op_add, Res.bind_ok]
      rfl
    · exact op_s (x := .int 10) (y := .int 6) (M1 := M1) (M2 := M1) (by rw [s_cst]) (by rw [s_cst]) (op_pow (by decide) (by decide) s3)
    · rw [hk]
      exact op_add
  · have := sh.f0
    split at hk <;> omega
  · intro v P e
    have := sh.f0
    split at hk <;> omega
end
end K19
end K19PPS

section K19PQS
set_option Elab.async false
set_option linter.all false
set_option maxRecDepth 100000
namespace K19
open Mi
theorem sh_dats {b f : Int} {P : List Val} (h : ShOk b f P) : noRefs P = true ∧ depths P ≤ 4 :=
  dats_nr fun v hv => by
    obtain ⟨j, _, q⟩ := wrs_mem h.ws v hv
    exact wr_dat q
section
variable {n : Nat} {ns : List Int} {T M : Store} {r w l : Nat} {b f g : Int} {W : List Val} {σ : St}
theorem e_left (cf : Cf) (h : S1 ns T M) (sh : ShOk b f (W.drop g.toNat)) (hl : T[l]? = some (.lst (W.drop g.toNat))) (v2 : σ[2]? = some (some (.ref (l + 3)))) : ev cf (.cmp .ne (.var 2) (.lst (.disp .nil))) σ M = .ok (.bl (!eqVs (W.drop g.toNat) [])) (M ++ [.lst []]) := by
  refine cmp_s (x := .ref (l + 3)) (y := .ref M.length) (M1 := M) (by rw [s_var, v2]) (lst_s (by rw [sl_disp, ss_nil, Res.bind_ok, if_pos (by show 0 ≤ LIM; exact Nat.zero_le _)])) ?_
  show (eqL _ _ _).map _ = _
  have lt : l + 3 < M.length := by
    have := (List.getElem?_eq_some_iff.mp hl).1
    rw [h.len]; omega
  have g1 : (M ++ [Obj.lst []])[l + 3]? = some (.lst (W.drop g.toNat)) := by rw [List.getElem?_append_left lt, h.get, hl]
  have g2 : (M ++ [Obj.lst []])[M.length]? = some (.lst []) := by simp
  obtain ⟨q1, q2⟩ := sh_dats sh
  unfold eqL
  rw [g1, g2]
  simp only [q1]
  have q3 : decide (depths (W.drop g.toNat) ≤ 59) = true := decide_eq_true (by omega)
  rw [q3]
  rfl
theorem did_near (h : S1 ns T M) (a : AccAt T r w b f g W) (sh : ShOk b f (W.drop g.toNat)) (cf : Cf) (hl : T[l]? = some (.lst (W.drop g.toNat))) (v1 : σ[1]? = some (some (.ref (r + 3)))) (v2 : σ[2]? = some (some (.ref (l + 3)))) {k : Int} (v3 : σ[3]? = some (some (.int k))) (hk : k < 6) {v : Val} {P : List Val} (hP : W.drop g.toNat = v :: P) (rest : Ss) :
    ∃ deed M', exs cf (.cons dI2 rest) σ M = .ret deed M' ∧ DidOk ns r w b f g W deed M' := by
  have e0 := e_left cf h sh hl v2
  rw [hP] at e0
  have e1 : ev cf (.and (.cmp .lt (.var 3) (.cst (.int 6))) (.cmp .ne (.var 2) (.lst (.disp .nil)))) σ M = .ok (.bl true) (M ++ [.lst []]) := by
    have e2 := e_ltc cf 6 M v3
    rw [decide_eq_true hk] at e2
    rw [and_t e2, e0]
    rfl
  have h1 := h.push [.lst []]
  have a1 := a.app [.lst []]
  obtain ⟨d1, d2⟩ := drop_tail a.g0 hP
  have h2 := h1.set r (.dic (accL b f (w + 3) (g + 1)))
  have a2 := a1.put b f (g + 1) (by have := a.g0; omega) d2
  have sh1 : ShOk b f (v :: P) := by rw [← hP]; exact sh
  obtain ⟨xs, hv⟩ := sh1.head
  refine ⟨.tup [.str wSettled, .int (f - P.length)], _, ?_, ⟨_, b, f, g + 1, W, h2, a2, ?_, by omega, by omega, fun j M => ?_⟩⟩
  · refine seq_ret ?_
    unfold dI2
    rw [ite_t e1]
    have eo : ev cf (.op .add (.ix (.var 1) (.cst kGone)) (.cst (.int 1))) σ (M ++ [.lst []]) = .ok (.int (g + 1)) (M ++ [.lst []]) := op_s (a_gone h1 a1 v1) (y := .int 1) (M2 := M ++ [.lst []]) (by rw [s_cst]) op_add
    rw [seq_nx (a_six h1 a1 v1 eo rfl (put_gone _ _ _ _ _))]
    refine seq_ret (ret_s ?_)
    unfold dSet
    have nr : r ≠ l := fun e => by
      subst e
      have := a.d.symm.trans hl
      cases this
    have gl : ((M ++ [Obj.lst []]).set (r + 3) (.dic (accL b f (w + 3) (g + 1))))[l + 3]? = some (.lst (v :: P)) := by
      rw [h2.get, List.getElem?_set_ne nr, List.getElem?_append_left (List.getElem?_eq_some_iff.mp hl).1, hl, hP]
    refine tup_s (disp_c (by rw [s_cst]) (disp_1 (ix_s (x := v) (y := .int 0) (ix_s (x := .ref (l + 3)) (y := .int 0) (by rw [s_var, v2]) (by rw [s_cst]) ?_) (by rw [s_cst]) ?_))) (by simp)
    · show (match ((M ++ [Obj.lst []]).set (r + 3) (.dic (accL b f (w + 3) (g + 1))))[l + 3]? with | some (.lst xs) => itemAt xs 0 | some (.dic kvs) => dicGet kvs (.int 0) | _ => none) = some v
      rw [gl]
      exact first v P
    · rw [hv]
      exact first _ xs
  · rw [d1]
    exact sh1.tail
  · rw [d1, hP]
    exact noted_yes j M sh1
theorem did_last (h : S1 ns T M) (a : AccAt T r w b f g W) (sh : ShOk b f (W.drop g.toNat)) (cf : Cf) (hl : T[l]? = some (.lst (W.drop g.toNat))) (v2 : σ[2]? = some (some (.ref (l + 3)))) (v3 : σ[3]? = some (some (.int 6))) (hP : 1 < (W.drop g.toNat).length) (rest : Ss) :
    ∃ deed M', exs cf (.cons dI3 rest) σ M = .ret deed M' ∧ DidOk ns r w b f g W deed M' := by
  have gl : M[l + 3]? = some (.lst (W.drop g.toNat)) := by rw [h.get, hl]
  have el : ev cf (.bi .len (.var 2)) σ M = .ok (.int ((W.drop g.toNat).length : Nat)) M := by
    rw [s_bi, s_var, v2]
    show (Res.ok (Val.ref (l + 3)) M).bind _ = _
    rw [Res.bind_ok]
    show ofOpt ((match M[l + 3]? with | some (.lst xs) => some xs.length | _ => none).map fun (n : Nat) => Val.int (n : Int)) M = _
    rw [gl]
    rfl
  have e1 : ev cf (.and (.cmp .eq (.var 3) (.cst (.int 6))) (.cmp .gt (.bi .len (.var 2)) (.cst (.int 1)))) σ M = .ok (.bl true) M := by
    rw [and_t (e_eqc cf 6 M v3)]
    exact cmp_s (M1 := M) el (y := .int 1) (by rw [s_cst]) (by
      show some (decide ((1 : Int) < ((W.drop g.toNat).length : Nat))) = some true
      rw [decide_eq_true (by omega)])
  obtain ⟨v, xs, hv1, hv2⟩ := sh.last (by omega)
  refine ⟨.tup [.str wSettled, .int f], M, ?_, DidOk.stay h a sh fun j M => noted_no j M sh ?_ ?_⟩
  · refine seq_ret ?_
    unfold dI3
    rw [ite_t e1]
    refine seq_ret (ret_s ?_)
    unfold dSet
    refine tup_s (disp_c (by rw [s_cst]) (disp_1 (ix_s (x := v) (y := .int 0) (ix_s (x := .ref (l + 3)) (y := .int (-1)) (M1 := M) (M2 := M) (by rw [s_var, v2]) (by rw [s_neg, s_cst, Res.bind_ok]) ?_) (by rw [s_cst]) ?_))) (by simp)
    · show (match M[l + 3]? with | some (.lst xs) => itemAt xs (-1) | some (.dic kvs) => dicGet kvs (.int (-1)) | _ => none) = some v
      rw [gl]
      exact hv1
    · rw [hv2]
      exact first _ xs
  · have := sh.le
    omega
  · intro u P e
    rw [e, List.length_cons] at hP
    omega
theorem e_last_no (cf : Cf) (h : S1 ns T M) (hl : T[l]? = some (.lst (W.drop g.toNat))) (v2 : σ[2]? = some (some (.ref (l + 3)))) {k : Int} (v3 : σ[3]? = some (some (.int k))) (hP : k ≠ 6 ∨ ¬ 1 < (W.drop g.toNat).length) (rest : Ss) : exs cf (.cons dI3 rest) σ M = exs cf rest σ M := by
  have gl : M[l + 3]? = some (.lst (W.drop g.toNat)) := by rw [h.get, hl]
  have el : ev cf (.bi .len (.var 2)) σ M = .ok (.int ((W.drop g.toNat).length : Nat)) M := by
    rw [s_bi, s_var, v2]
    show (Res.ok (Val.ref (l + 3)) M).bind _ = _
    rw [Res.bind_ok]
    show ofOpt ((match M[l + 3]? with | some (.lst xs) => some xs.length | _ => none).map fun (n : Nat) => Val.int (n : Int)) M = _
    rw [gl]
    rfl
  have e1 : ev cf (.and (.cmp .eq (.var 3) (.cst (.int 6))) (.cmp .gt (.bi .len (.var 2)) (.cst (.int 1)))) σ M = .ok (.bl false) M := by
    by_cases h6 : k = 6
    · subst h6
      rw [and_t (e_eqc cf 6 M v3)]
      exact cmp_s (M1 := M) el (y := .int 1) (by rw [s_cst]) (by
        show some (decide ((1 : Int) < ((W.drop g.toNat).length : Nat))) = some false
        rw [decide_eq_false (by omega)])
    · have e2 := e_eqc cf 6 M v3
      rw [show (k == 6) = false by simpa using h6] at e2
      rw [and_f e2]
  unfold dI3
  rw [seq_nx (by rw [ite_f e1, xs_nil])]
end
end K19
end K19PQS

section K19PRS
set_option Elab.async false
set_option linter.all false
set_option maxRecDepth 100000
namespace K19
open Mi
section
variable {ns : List Int} {T M : Store} {r w : Nat} {b f g : Int} {W : List Val}
theorem did (n : Nat) (h : S1 ns T M) (a : AccAt T r w b f g W) (sh : ShOk b f (W.drop g.toNat)) (hf : f + 1 < 2 ^ 40) (hW : W.length < 900) :
    ∃ deed M', call pg (n + 5) 35 [.ref 2, .ref (r + 3)] M = .ok deed M' ∧ DidOk ns r w b f g W deed M' := by
  rw [call_s pg (n + 4) 35 _ _ ⟨2, 6, b35⟩ rfl rfl]
  suffices hh : ∃ deed M', exs ⟨call pg (n + 4), pg.repr, pg.eqx, pg.sub⟩ b35 [some (.ref 2), some (.ref (r + 3)), none, none, none, none] M = .ret deed M' ∧ DidOk ns r w b f g W deed M' by
    obtain ⟨deed, M', e, q⟩ := hh
    exact ⟨deed, M', back_s e, q⟩
  have eL : ev ⟨call pg (n + 4), pg.repr, pg.eqx, pg.sub⟩ dLeft [some (.ref 2), some (.ref (r + 3)), none, none, none, none] M = .ok (.ref (T.length + 3)) (M ++ [.lst (W.drop g.toNat)]) := a_left (i := 1) h a rfl
  rw [b35_eq, seq_nx (set_s eL)]
  show ∃ deed M', exs _ _ [some (.ref 2), some (.ref (r + 3)), some (.ref (T.length + 3)), none, none, none] _ = _ ∧ _
  have h1 := h.push [.lst (W.drop g.toNat)]
  have a1 := a.app [.lst (W.drop g.toNat)]
  have hl : (T ++ [Obj.lst (W.drop g.toNat)])[T.length]? = some (.lst (W.drop g.toNat)) := by simp
  obtain ⟨T1, hT1⟩ : ∃ T1, T1 = T ++ [Obj.lst (W.drop g.toNat)] := ⟨_, rfl⟩
  obtain ⟨M1, hM1⟩ : ∃ M1, M1 = M ++ [Obj.lst (W.drop g.toNat)] := ⟨_, rfl⟩
  obtain ⟨l, hlen⟩ : ∃ l, l = T.length := ⟨_, rfl⟩
  rw [← hT1] at h1 a1 hl
  rw [← hM1] at h1
  rw [← hM1, ← hlen]
  rw [← hlen] at hl
  clear hT1 hM1 hlen h a
  obtain ⟨way, M2, y0, y1, e2, h2⟩ := e_draw (n := n + 3) (σ := [some (.ref 2), some (.ref (r + 3)), some (.ref (l + 3)), none, none, none]) 12 (by decide) (by decide) h1 rfl
  rw [seq_nx (set_s e2)]
  show ∃ deed M', exs _ _ [some (.ref 2), some (.ref (r + 3)), some (.ref (l + 3)), some (.int way), none, none] _ = _ ∧ _
  have wr := fun (X : Store) (M3 : Store) (h3 : S1 ns (T1 ++ X) M3) => did_write (n := n) (some (.ref (l + 3))) (some (.int way)) h3 (a1.app X) sh hf hW
  by_cases w0 : way = 0
  · subst w0
    exact did_boot h2 a1 sh _ rfl rfl _
  have c0 := e_eqc (σ := [some (.ref 2), some (.ref (r + 3)), some (.ref (l + 3)), some (.int way), none, none]) (i := 3) ⟨call pg (n + 4), pg.repr, pg.eqx, pg.sub⟩ 0 M2 rfl
  rw [show (way == 0) = false by simpa using w0] at c0
  rw [seq_nx (s := dI0) (by unfold dI0; rw [ite_f c0, xs_nil])]
  by_cases w1 : way = 1
  · subst w1
    exact did_far h2 a1 sh rfl rfl rfl _
  have c1 := e_eqc (σ := [some (.ref 2), some (.ref (r + 3)), some (.ref (l + 3)), some (.int way), none, none]) (i := 3) ⟨call pg (n + 4), pg.repr, pg.eqx, pg.sub⟩ 1 M2 rfl
  rw [show (way == 1) = false by simpa using w1] at c1
  rw [seq_nx (s := dI1) (by unfold dI1; rw [ite_f c1, xs_nil])]
  have c6 := e_ltc (σ := [some (.ref 2), some (.ref (r + 3)), some (.ref (l + 3)), some (.int way), none, none]) (i := 3) ⟨call pg (n + 4), pg.repr, pg.eqx, pg.sub⟩ 6 M2 rfl
  by_cases w6 : way < 6
  · rw [decide_eq_true w6] at c6
    cases hP : W.drop g.toNat with
    | cons v P => exact did_near h2 a1 sh _ hl rfl rfl rfl w6 hP _
    | nil =>
      have el := e_left (σ := [some (.ref 2), some (.ref (r + 3)), some (.ref (l + 3)), some (.int way), none, none]) ⟨call pg (n + 4), pg.repr, pg.eqx, pg.sub⟩ h2 sh hl rfl
      rw [show (!eqVs (W.drop g.toNat) []) = false by rw [hP]; rfl] at el
      have h3 := h2.push [.lst []]
      have hl3 : (T1 ++ [Obj.lst []])[l]? = some (.lst (W.drop g.toNat)) := by rw [List.getElem?_append_left (List.getElem?_eq_some_iff.mp hl).1, hl]
      rw [seq_nx (s := dI2) (by unfold dI2; rw [ite_f ((and_t c6).trans el), xs_nil])]
      rw [e_last_no _ h3 hl3 rfl rfl (.inr (by rw [hP]; simp))]
      exact wr _ _ h3
  · rw [decide_eq_false w6] at c6
    rw [seq_nx (s := dI2) (by unfold dI2; rw [ite_f (and_f c6), xs_nil])]
    by_cases wl : way = 6 ∧ 1 < (W.drop g.toNat).length
    · obtain ⟨rfl, hp⟩ := wl
      exact did_last h2 a1 sh _ hl rfl rfl hp _
    · rw [e_last_no _ h2 hl rfl rfl ((Classical.em (way = 6)).elim (fun z => .inr fun q => wl ⟨z, q⟩) .inl)]
      have := wr [] M2 (by rw [List.append_nil]; exact h2)
      exact this
end
end K19
end K19PRS

section K19PSS
set_option Elab.async false
set_option linter.all false
set_option maxRecDepth 100000
namespace K19
open Mi
theorem cut_all {α : Type} (xs : List α) (h : xs.length ≤ 63) : cut xs none (some 63) = xs := by
  have e : bound xs.length xs.length (some 63) = xs.length := by
    simp only [bound]
    rw [if_neg (by omega)]
    have : (63 : Int).toNat = 63 := rfl
    omega
  unfold cut
  rw [e]
  simp [bound]
def absI (i : Int) : Int := if i < 0 then -i else i
def absV : Val → Val
  | .int i => .int (absI i)
  | v => v
theorem c_pot (n : Nat) (ns : List Int) (h : ns.length ≤ 63) : ∃ M', call pg (n + 1) 11 [.frz (ns.map Val.int)] [] = .ok (.ref 2) M' ∧ S1 (ns.map absI) [] M' := by
  refine ⟨potS (.lst (ns.map Val.int)) (ns.map absI) 0 0 (1 + (ns.length : Nat)) 0 [], ?_, _, 0, 0, _, 0, Int.le_refl _, rfl⟩
  have hl : (ns.map Val.int).length ≤ 63 := by rw [List.length_map]; exact h
  rw [call_s pg n 11 _ _ ⟨1, 3, b11⟩ rfl rfl]
  refine back_s ?_
  show exs ⟨call pg n, pg.repr, pg.eqx, pg.sub⟩ b11 [some (.frz (ns.map Val.int)), none, none] [] = _
  obtain ⟨cf, hcf⟩ : ∃ cf : Cf, cf = ⟨call pg n, pg.repr, pg.eqx, pg.sub⟩ := ⟨_, rfl⟩
  rw [← hcf]
  have em : (ns.map Val.int).map absV = (ns.map absI).map Val.int := by
    rw [List.map_map, List.map_map]
    rfl
  have ec : evL cf (.comp [2] (.one 2) (.seq (.sl (.var 0) .none (.some (.cst (.int 63))))) .nil (.bi .abs (.bi .int (.var 2)))) [some (.frz (ns.map Val.int)), none, none] [] = .ok ((ns.map absI).map Val.int) [.lst (ns.map Val.int)] := by
    have es : ev cf (.sl (.var 0) .none (.some (.cst (.int 63)))) [some (.frz (ns.map Val.int)), none, none] [] = .ok (.ref 0) [.lst (ns.map Val.int)] := by
      simp [slV, cut_all _ hl]
    have ei : itemsOf [Obj.lst (ns.map Val.int)] (.ref 0) = some (ns.map Val.int, [(0, ns.map Val.int)]) := rfl
    rw [evL_comp, sS_seq, es, Res.bind_ok, ei, ofOpt_some, Res.bind_ok]
    rw [turns_pure (M := [.lst (ns.map Val.int)]) (g := [(0, ns.map Val.int)]) ⟨rfl, trivial⟩ absV fun x hm => ?_]
    · rw [Res.bind_ok, em]
      unfold lcEnd
      rw [List.nil_append, if_pos (by rw [List.length_map, List.length_map, lim_val]; omega)]
    · obtain ⟨i, _, rfl⟩ := List.mem_map.mp hm
      unfold lcTurn
      simp [put, wiped, bi1, absV, absI]
  unfold b11
  rw [seq_nx (set_s (lst_s ec))]
  show exs cf _ [some (.frz (ns.map Val.int)), some (.ref 1), none] [.lst (ns.map Val.int), .lst ((ns.map absI).map Val.int)] = _
  have v1 : ∀ M, ev cf (.var 1) [some (.frz (ns.map Val.int)), some (.ref 1), none] M = .ok (.ref 1) M := fun M => by rw [s_var] <;> rfl
  have el : ev cf (.bi .len (.var 1)) [some (.frz (ns.map Val.int)), some (.ref 1), none] [.lst (ns.map Val.int), .lst ((ns.map absI).map Val.int)] = .ok (.int (ns.length : Nat)) [.lst (ns.map Val.int), .lst ((ns.map absI).map Val.int)] := by
    rw [s_bi, v1, Res.bind_ok]
    show Res.ok (Val.int (((ns.map absI).map Val.int).length : Nat)) _ = _
    rw [List.length_map, List.length_map]
  have es := disp_c (v1 [.lst (ns.map Val.int), .lst ((ns.map absI).map Val.int)]) (disp_c (a := .cst (.int 0)) (by rw [s_cst]) (disp_c (a := .cst (.int 0)) (by rw [s_cst]) (disp_c (op_s (a := .cst (.int 1)) (x := .int 1) (by rw [s_cst]) el op_add) (disp_1 (a := .cst (.int 0)) (by rw [s_cst])))))
  refine seq_ret (ret_s ?_)
  rw [lst_s (by rw [sl_disp, es, Res.bind_ok, if_pos (by rw [lim_val]; show 5 ≤ 16777216; decide)])]
  rfl
theorem c_bare (n : Nat) (M : Store) : call pg (n + 1) 28 [] M = .ok (sheetV 0 0 []) M := by
  rw [call_s pg n 28 _ _ ⟨0, 0, b28⟩ rfl rfl]
  have a0 : (0 : Nat) ≤ LIM := Nat.zero_le _
  simp [b28, start, sheetV, l3]
theorem ShOk.bare : ShOk 0 0 [] := ⟨by decide, by decide, by decide, by decide, by decide, trivial⟩
def standW (i : Int) : Val := .tup [.int i, .str [97], .non, .tup [.str [112, 117, 116], .str [120]]]
theorem ShOk.stand {b i : Int} (hb : 0 ≤ b) (hi : 1 ≤ i) (hi2 : i < 2 ^ 40) : ShOk b i [standW i] := by
  refine ⟨hb, by omega, hi2, by simp, hi, ?_, trivial⟩
  rw [show i - (([standW i] : List Val).length : Nat) + 1 = i by simp]
  exact ⟨[97], .non, .tup [.str [112, 117, 116], .str [120]], rfl, by decide, rfl, by decide, trivial, by simp [dat]⟩
end K19
end K19PSS

section K19PTS
set_option Elab.async false
set_option linter.all false
set_option maxRecDepth 100000
namespace K19
open Mi
def lThirty : E := .cmp .eq (.call 12 (.cons (.var 1) (.cons (.cst (.int 30)) .nil))) (.cst (.int 0))
def lNum : E := .call 12 (.cons (.var 1) (.cons (.op .pow (.cst (.int 10)) (.cst (.int 9))) .nil))
def lNext : E := .op .add (.var 5) (.cst (.int 1))
def lPut : E := .tup (.cons (.cst (.str [112, 117, 116])) (.cons (.cst (.str [120])) .nil))
def lStands : E := .tup (.cons (.call 12 (.cons (.var 1) (.cons (.cst (.int 50)) .nil))) (.cons lNext (.cons (.tup (.cons (.tup (.cons lNext (.cons (.cst (.str [97])) (.cons (.cst .non) (.cons lPut .nil))))) .nil)) .nil)))
def lStandNoted : E := .call 32 (.cons (.var 2) (.cons (.tup (.cons (.cst (.str wStand)) (.cons (.var 6) .nil))) .nil))
def lStandAcc : E := .call 33 (.cons (.var 6) .nil)
def lStand : S := .ite lThirty (.cons (.set 5 lNum) (.cons (.set 6 lStands) (.cons (.par 2 3 lStandNoted lStandAcc) .nil))) .nil
def lDid : E := .call 32 (.cons (.var 2) (.cons (.call 35 (.cons (.var 1) (.cons (.var 3) .nil))) .nil))
def lLike : E := .call 14 (.cons (.var 2) (.cons (.call 34 (.cons (.var 3) .nil)) .nil))
def lSheet : E := .cmp .isNotN (.call 29 (.cons (.var 2) .nil)) (.cst (.bl true))
def lCheck : S := .ite (.or (.not lLike) lSheet) (.cons (.ret (.cst (.bl false))) .nil) .nil
def lBody : Ss := .cons lStand (.cons (.set 2 lDid) (.cons lCheck .nil))
def lCount : E := .op .add (.cst (.int 10)) (.call 12 (.cons (.var 1) (.cons (.call 13 (.cons (.var 1) (.cons (.lst (.disp (.cons (.cst (.int 10)) (.cons (.cst (.int 40)) (.cons (.cst (.int 120)) .nil))))) .nil))) .nil)))
theorem b36_eq : b36 = .cons (.set 1 (.call 11 (.cons (.var 0) .nil))) (.cons (.set 2 (.call 28 .nil)) (.cons (.set 3 (.call 33 (.cons (.var 2) .nil))) (.cons (.loop (.one 4) (.rng lCount) lBody) (.cons (.ret (.cst (.bl true))) .nil)))) := rfl
/-- what holds ahead of each turn -/
def Inv (ns : List Int) (x0 : Option Val) (j : Nat) (σ : St) (M : Store) : Prop := ∃ T r w b f g W x4 x5 x6, S1 ns T M ∧ AccAt T r w b f g W ∧ ShOk b f (W.drop g.toNat) ∧ f ≤ 10000000000 + (j : Nat) ∧ W.length ≤ j + 1 ∧
  σ = [x0, some (.ref 2), some (sheetV b f (W.drop g.toNat)), some (.ref (r + 3)), x4, x5, x6]
section
variable {n : Nat} {ns : List Int} {x0 : Option Val} {σ : St} {M : Store}
theorem turn_stand {j : Nat} (h : Inv ns x0 j σ M) : ∃ σ' M', ex ⟨call pg (n + 14), pg.repr, pg.eqx, pg.sub⟩ lStand σ M = .nx σ' M' ∧ Inv ns x0 j σ' M' := by
  obtain ⟨T, r, w, b, f, g, W, x4, x5, x6, h, a, sh, hf, hW, rfl⟩ := h
  obtain ⟨d, M1, d0, d1, e1, h1⟩ := draw (n + 13) 30 (by decide) (by decide) h
  have s3 : small 10 = true := by decide
  have c : ev ⟨call pg (n + 14), pg.repr, pg.eqx, pg.sub⟩ lThirty [x0, some (.ref 2), some (sheetV b f (W.drop g.toNat)), some (.ref (r + 3)), x4, x5, x6] M = .ok (.bl (d == 0)) M1 := by
    unfold lThirty
    exact cmp_s (x := .int d) (y := .int 0) (M1 := M1) (by rw [call_2 (x := .ref 2) (y := .int 30) (M1 := M) (M2 := M) (by rw [s_var] <;> rfl) (by rw [s_cst])]; exact e1) (by rw [s_cst]) (eq_int d 0 M1)
  by_cases hd : d = 0
  · rw [show (d == 0) = true by simpa using hd] at c
    obtain ⟨num, M2, n0, n1, e2, h2⟩ := draw (n + 13) (10 ^ 9) (by decide) (by decide) h1
    obtain ⟨bo, M3, o0, o1, e3, h3⟩ := draw (n + 13) 50 (by decide) (by decide) h2
    have sh' : ShOk bo (num + 1) [standW (num + 1)] := ShOk.stand o0 (by omega) (by omega)
    obtain ⟨X4, e4⟩ := noted_stand (n + 4) M3 sh sh'
    have h4 := h3.push X4
    obtain ⟨X5, r', w', e5, a5⟩ := account (n + 13) h4 bo (num + 1) [standW (num + 1)]
    have h5 := h4.push X5
    refine ⟨_, M3 ++ X4 ++ X5, ?_, _, r', w', bo, num + 1, 0, [standW (num + 1)], x4, some (.int num), some (sheetV bo (num + 1) [standW (num + 1)]), h5, a5, sh', by omega, by simp, rfl⟩
    unfold lStand
    rw [ite_t c]
    have p : ev ⟨call pg (n + 14), pg.repr, pg.eqx, pg.sub⟩ lNum [x0, some (.ref 2), some (sheetV b f (W.drop g.toNat)), some (.ref (r + 3)), x4, x5, x6] M1 = .ok (.int num) M2 := by
      unfold lNum
      rw [call_2 (x := .ref 2) (y := .int (10 ^ 9)) (M1 := M1) (M2 := M1) (by rw [s_var] <;> rfl) (op_s (x := .int 10) (y := .int 9) (M1 := M1) (M2 := M1) (by rw [s_cst]) (by rw [s_cst]) (op_pow (by decide) (by decide) s3))]
      exact e2
    rw [seq_nx (set_s p)]
    show exs _ _ [x0, some (.ref 2), some (sheetV b f (W.drop g.toNat)), some (.ref (r + 3)), x4, some (.int num), x6] M2 = _
    have pn : ∀ M, ev ⟨call pg (n + 14), pg.repr, pg.eqx, pg.sub⟩ lNext [x0, some (.ref 2), some (sheetV b f (W.drop g.toNat)), some (.ref (r + 3)), x4, some (.int num), x6] M = .ok (.int (num + 1)) M := fun M =>
      op_s (x := .int num) (y := .int 1) (M1 := M) (M2 := M) (by rw [s_var] <;> rfl) (by rw [s_cst]) op_add
    have pp : ∀ M, ev ⟨call pg (n + 14), pg.repr, pg.eqx, pg.sub⟩ lPut [x0, some (.ref 2), some (sheetV b f (W.drop g.toNat)), some (.ref (r + 3)), x4, some (.int num), x6] M = .ok (.tup [.str [112, 117, 116], .str [120]]) M := fun M =>
      tup_s (disp_c (by rw [s_cst]) (disp_1 (by rw [s_cst]))) (by decide)
    have ps : ev ⟨call pg (n + 14), pg.repr, pg.eqx, pg.sub⟩ lStands [x0, some (.ref 2), some (sheetV b f (W.drop g.toNat)), some (.ref (r + 3)), x4, some (.int num), x6] M2 = .ok (sheetV bo (num + 1) [standW (num + 1)]) M3 := by
      unfold lStands
      refine tup_s (disp_c (x := .int bo) (M1 := M3) (by rw [call_2 (x := .ref 2) (y := .int 50) (M1 := M2) (M2 := M2) (by rw [s_var] <;> rfl) (by rw [s_cst])]; exact e3) (disp_c (pn M3) (disp_1 (tup_s (disp_1 (tup_s (disp_c (pn M3) (disp_c (by rw [s_cst]) (disp_c (by rw [s_cst]) (disp_1 (pp M3))))) (by simp))) (by simp))))) (by simp)
    rw [seq_nx (set_s ps)]
    show exs _ _ [x0, some (.ref 2), some (sheetV b f (W.drop g.toNat)), some (.ref (r + 3)), x4, some (.int num), some (sheetV bo (num + 1) [standW (num + 1)])] M3 = _
    obtain ⟨τ, hτ⟩ : ∃ τ : St, τ = [x0, some (.ref 2), some (sheetV b f (W.drop g.toNat)), some (.ref (r + 3)), x4, some (.int num), some (sheetV bo (num + 1) [standW (num + 1)])] := ⟨_, rfl⟩
    have v2 : τ[2]? = some (some (sheetV b f (W.drop g.toNat))) := by rw [hτ] <;> rfl
    have v6 : τ[6]? = some (some (sheetV bo (num + 1) [standW (num + 1)])) := by rw [hτ] <;> rfl
    rw [← hτ]
    have q1 : ev ⟨call pg (n + 14), pg.repr, pg.eqx, pg.sub⟩ lStandNoted τ M3 = .ok (sheetV bo (num + 1) [standW (num + 1)]) (M3 ++ X4) := by
      unfold lStandNoted
      rw [call_2 (x := sheetV b f (W.drop g.toNat)) (M1 := M3) (by rw [s_var, v2]) (tup_s (disp_c (by rw [s_cst]) (disp_1 (x := sheetV bo (num + 1) [standW (num + 1)]) (M1 := M3) (by rw [s_var, v6]))) (by simp))]
      exact e4
    have q2 : ev ⟨call pg (n + 14), pg.repr, pg.eqx, pg.sub⟩ lStandAcc τ (M3 ++ X4) = .ok (.ref (r' + 3)) (M3 ++ X4 ++ X5) := by
      unfold lStandAcc
      rw [call_1 (x := sheetV bo (num + 1) [standW (num + 1)]) (M1 := M3 ++ X4) (by rw [s_var, v6])]
      exact e5
    have q3 : ex ⟨call pg (n + 14), pg.repr, pg.eqx, pg.sub⟩ (.par 2 3 lStandNoted lStandAcc) τ M3 = .nx ((τ.set 2 (some (sheetV bo (num + 1) [standW (num + 1)]))).set 3 (some (.ref (r' + 3)))) (M3 ++ X4 ++ X5) := by
      rw [x_par, q1, Out.on_ok, q2, Out.on_ok]
    rw [seq_nx q3, xs_nil, hτ]
    rfl
  · rw [show (d == 0) = false by simpa using hd] at c
    refine ⟨_, M1, ?_, T, r, w, b, f, g, W, x4, x5, x6, h1, a, sh, hf, hW, rfl⟩
    unfold lStand
    rw [ite_f c, xs_nil]
end
end K19
end K19PTS

section K19PUS
set_option Elab.async false
set_option linter.all false
set_option maxRecDepth 100000
namespace K19
open Mi
section
variable {n : Nat} {ns : List Int} {x0 : Option Val} {σ : St} {M : Store}
theorem turn_did {j : Nat} (hj : j < 200) (h : Inv ns x0 j σ M) : ∃ σ' M', ex ⟨call pg (n + 14), pg.repr, pg.eqx, pg.sub⟩ (.set 2 lDid) σ M = .nx σ' M' ∧ Inv ns x0 (j + 1) σ' M' := by
  obtain ⟨T, r, w, b, f, g, W, x4, x5, x6, h, a, sh, hf, hW, hσ⟩ := h
  have v1 : σ[1]? = some (some (.ref 2)) := by rw [hσ] <;> rfl
  have v2 : σ[2]? = some (some (sheetV b f (W.drop g.toNat))) := by rw [hσ] <;> rfl
  have v3 : σ[3]? = some (some (.ref (r + 3))) := by rw [hσ] <;> rfl
  obtain ⟨deed, M1, e1, T', b', f', g', W', h1, a1, sh1, hf1, hW1, hn⟩ := did (n + 9) h a sh (by omega) (by omega)
  obtain ⟨X, e2⟩ := hn (n + 4) M1
  refine ⟨_, M1 ++ X, set_s (v := sheetV b' f' (W'.drop g'.toNat)) ?_, T' ++ X, r, w, b', f', g', W', x4, x5, x6, h1.push X, a1.app X, sh1, by omega, by omega, ?_⟩
  · unfold lDid
    rw [call_2 (x := sheetV b f (W.drop g.toNat)) (y := deed) (M1 := M) (M2 := M1) (by rw [s_var, v2]) (by rw [call_2 (x := .ref 2) (y := .ref (r + 3)) (M1 := M) (M2 := M) (by rw [s_var, v1]) (by rw [s_var, v3])]; exact e1)]
    exact e2
  · rw [hσ]
    rfl
theorem isnot_bl (a b : Bool) (M : Store) : cmpV .isNotN (.bl a) (.bl b) M = some (!decide (a = b)) := rfl
theorem turn_check {j : Nat} (h : Inv ns x0 j σ M) : ∃ σ' M', ex ⟨call pg (n + 14), pg.repr, pg.eqx, pg.sub⟩ lCheck σ M = .nx σ' M' ∧ Inv ns x0 j σ' M' := by
  obtain ⟨T, r, w, b, f, g, W, x4, x5, x6, h, a, sh, hf, hW, hσ⟩ := h
  have v2 : σ[2]? = some (some (sheetV b f (W.drop g.toNat))) := by rw [hσ] <;> rfl
  have v3 : σ[3]? = some (some (.ref (r + 3))) := by rw [hσ] <;> rfl
  have e1 := sheet_of (n + 13) h a
  have e2 : call pg (n + 14) 14 [sheetV b f (W.drop g.toNat), sheetV b f (W.drop g.toNat)] (M ++ [.lst (W.drop g.toNat)]) = .ok (.bl true) (M ++ [.lst (W.drop g.toNat)]) := by
    have q := law_is (n + 8) (M ++ [.lst (W.drop g.toNat)]) 6 (sheet_dat sh)
    rw [show n + 8 + 6 = n + 14 by omega] at q
    exact q
  obtain ⟨X, e3⟩ := c_sheet (n + 6) (M ++ [.lst (W.drop g.toNat)]) sh
  refine ⟨σ, M ++ [.lst (W.drop g.toNat)] ++ X, ?_, T ++ [.lst (W.drop g.toNat)] ++ X, r, w, b, f, g, W, x4, x5, x6, (h.push _).push X, (a.app _).app X, sh, hf, hW, hσ⟩
  have p0 : ev ⟨call pg (n + 14), pg.repr, pg.eqx, pg.sub⟩ (.call 34 (.cons (.var 3) .nil)) σ M = .ok (sheetV b f (W.drop g.toNat)) (M ++ [.lst (W.drop g.toNat)]) := by
    rw [call_1 (x := .ref (r + 3)) (M1 := M) (by rw [s_var, v3])]
    exact e1
  have p1 : ev ⟨call pg (n + 14), pg.repr, pg.eqx, pg.sub⟩ lLike σ M = .ok (.bl true) (M ++ [.lst (W.drop g.toNat)]) := by
    unfold lLike
    have pv : ev ⟨call pg (n + 14), pg.repr, pg.eqx, pg.sub⟩ (.var 2) σ M = .ok (sheetV b f (W.drop g.toNat)) M := by rw [s_var, v2]
    have z := call_2 (g := 14) pv p0
    dsimp only at z
    exact z.trans e2
  have p2 : ev ⟨call pg (n + 14), pg.repr, pg.eqx, pg.sub⟩ lSheet σ (M ++ [.lst (W.drop g.toNat)]) = .ok (.bl false) (M ++ [.lst (W.drop g.toNat)] ++ X) := by
    unfold lSheet
    exact cmp_s (x := .bl true) (y := .bl true) (M1 := M ++ [.lst (W.drop g.toNat)] ++ X) (by rw [call_1 (x := sheetV b f (W.drop g.toNat)) (M1 := M ++ [.lst (W.drop g.toNat)]) (by rw [s_var, v2])]; exact e3) (by rw [s_cst]) (by rw [isnot_bl] <;> rfl)
  unfold lCheck
  rw [ite_f ((or_f (not_s p1)).trans p2), xs_nil]
theorem turn {j : Nat} (hj : j < 200) (h : Inv ns x0 j σ M) : ∃ σ' M', exs ⟨call pg (n + 14), pg.repr, pg.eqx, pg.sub⟩ lBody (σ.set 4 (some (.int (j : Nat)))) M = .nx σ' M' ∧ Inv ns x0 (j + 1) σ' M' := by
  have h0 : Inv ns x0 j (σ.set 4 (some (.int (j : Nat)))) M := by
    obtain ⟨T, r, w, b, f, g, W, x4, x5, x6, h, a, sh, hf, hW, hσ⟩ := h
    exact ⟨T, r, w, b, f, g, W, some (.int (j : Nat)), x5, x6, h, a, sh, hf, hW, by rw [hσ] <;> rfl⟩
  obtain ⟨σ1, M1, e1, h1⟩ := turn_stand (n := n) h0
  obtain ⟨σ2, M2, e2, h2⟩ := turn_did (n := n) hj h1
  obtain ⟨σ3, M3, e3, h3⟩ := turn_check (n := n) h2
  refine ⟨σ3, M3, ?_, h3⟩
  unfold lBody
  rw [seq_nx e1, seq_nx e2, seq_nx e3, xs_nil]
end
theorem law (n : Nat) (ns : List Int) (hn : ns.length ≤ 63) : ∃ M, call pg (n + 15) 36 [.frz (ns.map Val.int)] [] = .ok (.bl true) M := by
  obtain ⟨M0, e0, h0⟩ := c_pot (n + 13) ns hn
  have e1 := c_bare (n + 13) M0
  obtain ⟨X2, r, w, e2, a2⟩ := account (n + 13) h0 0 0 []
  have h2 := h0.push X2
  obtain ⟨τ, hτ⟩ : ∃ τ : St, τ = [some (.frz (ns.map Val.int)), some (.ref 2), some (sheetV 0 0 []), some (.ref (r + 3)), none, none, none] := ⟨_, rfl⟩
  have v1 : τ[1]? = some (some (.ref 2)) := by rw [hτ] <;> rfl
  -- the number of turns
  have es : evs ⟨call pg (n + 14), pg.repr, pg.eqx, pg.sub⟩ (.cons (.cst (.int 10)) (.cons (.cst (.int 40)) (.cons (.cst (.int 120)) .nil))) τ (M0 ++ X2) = .ok [.int 10, .int 40, .int 120] (M0 ++ X2) :=
    disp_c (by rw [s_cst]) (disp_c (by rw [s_cst]) (disp_1 (by rw [s_cst])))
  have el : ev ⟨call pg (n + 14), pg.repr, pg.eqx, pg.sub⟩ (.lst (.disp (.cons (.cst (.int 10)) (.cons (.cst (.int 40)) (.cons (.cst (.int 120)) .nil))))) τ (M0 ++ X2) = .ok (.ref (M0 ++ X2).length) (M0 ++ X2 ++ [.lst [.int 10, .int 40, .int 120]]) := lst_s (by rw [sl_disp, es, Res.bind_ok, if_pos (by rw [lim_val]; show 3 ≤ 16777216; decide)])
  obtain ⟨x, M3, hx, e3, h3⟩ := anyD (n + 12) [.int 10, .int 40, .int 120] h2 (by decide) (by decide)
  have hk : ∃ k : Int, x = .int k ∧ 1 ≤ k ∧ k ≤ 120 := by
    simp only [List.mem_cons, List.not_mem_nil, or_false] at hx
    rcases hx with rfl | rfl | rfl <;> exact ⟨_, rfl, by decide, by decide⟩
  obtain ⟨k, rfl, k0, k1⟩ := hk
  obtain ⟨d, M4, d0, d1, e4, h4⟩ := draw (n + 13) k (by omega) (by omega) h3
  obtain ⟨cnt, hcnt⟩ : ∃ cnt : Nat, (cnt : Int) = 10 + d := ⟨(10 + d).toNat, by omega⟩
  have ec : ev ⟨call pg (n + 14), pg.repr, pg.eqx, pg.sub⟩ lCount τ (M0 ++ X2) = .ok (.int (cnt : Nat)) M4 := by
    rw [hcnt]
    unfold lCount
    refine op_s (x := .int 10) (y := .int d) (M1 := M0 ++ X2) (by rw [s_cst]) ?_ op_add
    rw [call_2 (x := .ref 2) (y := .int k) (M1 := M0 ++ X2) (M2 := M3) (by rw [s_var, v1]) (by rw [call_2 (x := .ref 2) (M1 := M0 ++ X2) (by rw [s_var, v1]) el]; exact e3)]
    exact e4
  have i0 : Inv (ns.map absI) (some (.frz (ns.map Val.int))) 0 τ M4 := ⟨_, r, w, 0, 0, 0, [], none, none, none, h4, a2.app _, ShOk.bare, by decide, by decide, hτ⟩
  obtain ⟨σ', M', e5, i5⟩ := x_rng (i := 4) (b := lBody) ec (by omega) (Inv (ns.map absI) (some (.frz (ns.map Val.int)))) i0 fun j σ M hj h => turn (n := n) (by omega) h
  refine ⟨M', ?_⟩
  rw [call_s pg (n + 14) 36 _ _ ⟨1, 7, b36⟩ rfl rfl]
  refine back_s ?_
  show exs ⟨call pg (n + 14), pg.repr, pg.eqx, pg.sub⟩ b36 [some (.frz (ns.map Val.int)), none, none, none, none, none, none] [] = _
  rw [b36_eq]
  rw [seq_nx (set_s (v := .ref 2) (M1 := M0) (by rw [call_1 (x := .frz (ns.map Val.int)) (M1 := []) (by rw [s_var] <;> rfl)]; exact e0))]
  rw [seq_nx (set_s (v := sheetV 0 0 []) (M1 := M0) (by rw [s_call, ss_nil, Res.bind_ok]; exact e1))]
  rw [seq_nx (set_s (v := .ref (r + 3)) (M1 := M0 ++ X2) (by rw [call_1 (x := sheetV 0 0 []) (M1 := M0) (by rw [s_var] <;> rfl)]; exact e2))]
  show exs _ _ [some (.frz (ns.map Val.int)), some (.ref 2), some (sheetV 0 0 []), some (.ref (r + 3)), none, none, none] _ = _
  rw [← hτ, seq_nx e5]
  exact seq_ret (ret_s (by rw [s_cst]))
end K19
end K19PUS

section K19MathS
set_option Elab.async false
namespace K19
open Mi
def lv : Nat := 40
theorem math (ns : List Int) (h : ns.length ≤ 63) : ∃ M, call pg lv 36 [.frz (ns.map Val.int)] [] = .ok (.bl true) M := law 25 ns h
end K19
end K19MathS

section K19HeadS
set_option Elab.async false
set_option linter.all false
set_option maxRecDepth 100000
set_option maxHeartbeats 0
namespace K19
open PySem L2 Mi
def loose0 : List Str := ["is_whole", "is_whole_from", "is_count", "is_number", "is_client", "has_plain_signs", "is_name", "is_text", "is_stamp", "is_base", "is_text_or_none", "is_kind", "is_done_word", "is_talk", "is_worded", "is_splice", "is_text_edit", "is_edit", "is_part", "has_form", "bare_sheet", "is_sheet", "is_note", "sheet_behind", "noted_behind", "_law_pot", "_law_draw", "_law_any", "_law_mixed", "_law_is"]
def loose1 : List Str := ["_law_signs", "_law_text", "_law_name", "_law_can", "_law_made", "_law_plain", "_law_names_of", "_law_edit", "_law_account", "_law_sheet_of", "_law_did", "LeaseError", "NoSheet", "NoNote", "LONGEST_NAME", "LONGEST_TEXT", "LAST_CLIENT", "FIRST_STAMP", "KINDS", "DONE_WORDS", "JUDGES", "WRITE", "NOTE_FORMS"]
def loose : List Str := loose0 ++ loose1
abbrev R : PySem.W.OpenRow := PySem.W.OpenLaw.row PySem.Challenge.rw_leasefiles_k19_whole_sheets_by_their_dee
abbrev hk : PySem.W.Hook := hookM 4 pi
def ob (s : PySem.W.SharedT) : AlM := obsMG 4 pi (HandSHeadRun.getT s)
theorem ob_eq (s : PySem.W.SharedT) : ob s = hk.obs s.abs := obsMG_eq (HandSHeadRun.getT_eq s)
theorem run (w : World) : HandSHeadRun.RunEq R (PySem.W.view R.prog [57]) hk ob 4000 loose w := by
  refine PySem.W.byRow2 "special-get-raises" (P := fun w => HandSHeadRun.RunEq R (PySem.W.view R.prog [57]) hk ob 4000 loose w) (fun w => ?_) (fun w => ?_) w
  · intro os
    kernel_rfl
  · intro os
    kernel_rfl
end K19
end K19HeadS

section K19FinS
set_option Elab.async false
set_option linter.all false
set_option maxRecDepth 100000
set_option maxHeartbeats 0
open PySem PySem.W PySem.Calls PyProof.Rows
theorem PySem.Challenge.cw_leasefiles_k19_whole_sheets_by_their_dee_holds : PySem.Challenge.rw_leasefiles_k19_whole_sheets_by_their_dee.Holds := by
  w_on; o_law
  refine HandSHeadRun.head_any (r := OpenLaw.row PySem.Challenge.rw_leasefiles_k19_whole_sheets_by_their_dee) (q := view (OpenLaw.row PySem.Challenge.rw_leasefiles_k19_whole_sheets_by_their_dee).prog [57]) (H := K19.hk) (ob := K19.ob) (M := 4000) (loose := K19.loose) (d := HandSHeadRun.topDef (OpenLaw.row PySem.Challenge.rw_leasefiles_k19_whole_sheets_by_their_dee).prog 57) (kwd := []) K19.ob_eq (by kernel_rfl) (fun s => by kernel_rfl) K19.run (by kernel_rfl) (by kernel_rfl) (by kernel_rfl) (by rfl) (by first | assumption | decide +kernel) (by decide +kernel) ⟨rfl, rfl, rfl, rfl, rfl, by decide +kernel⟩ ?hw ?hc
  case hw => w_witness2
  case hc =>
    refine Mi.walkM (l := PySem.Challenge.rw_leasefiles_k19_whole_sheets_by_their_dee) (n := 63) (k := K19.lv + 0) (x := "_law_script") rfl (by decide) (by kernel_rfl) ⟨rfl, by decide, by decide⟩ ?F
    intro w mg fa h Y G hmg0
    obtain ⟨K, KX, c⟩ := Y
    have hmg : mg ("law" : PySem.Str) = some (.ref fa) := by
      have e : (HandSHeadRun.topDef (OpenLaw.row PySem.Challenge.rw_leasefiles_k19_whole_sheets_by_their_dee).prog 57).name = ("law" : PySem.Str) := by kernel_rfl
      rw [← e]
      exact hmg0
    obtain ⟨fd, sp, z1, z2, z3⟩ := Mi.law_at (P := (PySem.Challenge.rw_leasefiles_k19_whole_sheets_by_their_dee).prog) (w := w) (p := K19.pi) (Pg := K19.pg) (l0 := 0) (n := K19.lv) (i := 36) (d := K19.d36) (x := "_law_script") (m := 63) rfl rfl rfl c KX G hmg K19.binds (Mi.comp_of K19.fns_eq K19.codes K19.same) (Mi.rep_of c) (fun _ _ _ e => Mi.reprP_ok e) rfl rfl K19.math
    exact ⟨K, fd, sp, KX, z1, z2, z3⟩
end K19FinS
