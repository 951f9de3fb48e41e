import PyProof.Rows.All
import HandS.Base
import Wide.All
import OpenK.AllK
import Wide.FinOn
import HandS.ForMost
import HandS.ForExc
import HandS.TryMany
import HandS.ExcValue
import HandS.TupAny
import HandS.Walk
import HandS.Wide
import HandS.WideBits
import HandS.Flow
import HandS.IsInst
import HandS.StrMore
import HandS.HeadHook1
import HandS.TupLe
import KE.DataCmp
import KE.SortData
import HandS.Deep
import HandS.Ends
import HandS.More
import HandS.Words
import HandS.WordsExc
import HandS.Defaults
import HandS.ExcIs
import HandS.ExcField
import HandS.HeadHook3
import HandS.Small
import HandS.Conv
import KE.KRevSl
import HandS.Star
import HandS.Zip
import HandS.Style
import KE.KExcStr
import PyProof.ExcRepr
import PyProof.ReprRoads
import KE.KStateDown
import HandS.Head0
import HandS.Head1
import HandS.Head2
import HandS.HeadEnd
import HandS.HeadHook2
import PySem.Challenge.RW_leasefiles_k03_tables_judged_and_read
import KE.KStrBytes
section MiCoreS
set_option Elab.async false
set_option linter.all false
/-! Mi: a small language, its values, its stores and its runs. -/
namespace Mi

inductive Val where
  | non | bl (b : Bool) | int (i : Int) | str (s : List Nat) | tup (xs : List Val) | frz (xs : List Val) | ref (n : Nat) | fn (x : PySem.Str)
inductive Obj where
  | lst (xs : List Val) | dic (kvs : List (Val × Val)) | exv (c : Nat) | dit (kvs : List (List Val × Val))
abbrev Store := List Obj
structure Exc where
  cls : Nat
  arg : Option Val
inductive Res (α : Type) where
  | ok (a : α) (M : Store) | exc (x : Exc) (M : Store) | bad
def Res.bind {α β : Type} (r : Res α) (f : α → Store → Res β) : Res β := match r with
  | .ok a M => f a M
  | .exc x M => .exc x M
  | .bad => .bad
@[simp] theorem Res.bind_ok {α β : Type} (a : α) (M : Store) (f : α → Store → Res β) : (Res.ok a M).bind f = f a M := rfl
@[simp] theorem Res.bind_exc {α β : Type} (x : Exc) (M : Store) (f : α → Store → Res β) : (Res.exc x M : Res α).bind f = .exc x M := rfl
@[simp] theorem Res.bind_bad {α β : Type} (f : α → Store → Res β) : (Res.bad : Res α).bind f = .bad := rfl
/-- where nothing may be raised -/
def Res.calm {α : Type} : Res α → Res α
  | .exc _ _ => .bad
  | r => r
@[simp] theorem Res.calm_ok {α : Type} (a : α) (M : Store) : (Res.ok a M).calm = .ok a M := rfl
@[simp] theorem Res.calm_exc {α : Type} (x : Exc) (M : Store) : (Res.exc x M : Res α).calm = .bad := rfl
@[simp] theorem Res.calm_bad {α : Type} : (Res.bad : Res α).calm = .bad := rfl
abbrev St := List (Option Val)
def LIM : Nat := 16777216

/-! ### values -/
mutual
def noRef : Val → Bool
  | .ref _ => false
  | .frz _ => false
  | .fn _ => false
  | .tup xs => noRefs xs
  | _ => true
def noRefs : List Val → Bool
  | [] => true
  | x :: xs => noRef x && noRefs xs
end
mutual
/-- no reference at or beyond n -/
def below (n : Nat) : Val → Bool
  | .ref k => decide (k < n)
  | .tup xs => belows n xs
  | .frz xs => belows n xs
  | _ => true
def belows (n : Nat) : List Val → Bool
  | [] => true
  | x :: xs => below n x && belows n xs
end
mutual
def eqV : Val → Val → Bool
  | .non, .non => true
  | .bl a, .bl b => a == b
  | .bl a, .int j => (if a then 1 else 0) == j
  | .int i, .bl b => i == (if b then 1 else 0)
  | .int i, .int j => i == j
  | .str a, .str b => a == b
  | .tup xs, .tup ys => eqVs xs ys
  | _, _ => false
def eqVs : List Val → List Val → Bool
  | [], [] => true
  | x :: xs, y :: ys => eqV x y && eqVs xs ys
  | _, _ => false
end
mutual
def depth : Val → Nat
  | .tup xs => depths xs + 1
  | _ => 0
def depths : List Val → Nat
  | [] => 0
  | x :: xs => max (depth x) (depths xs)
end

mutual
/-- of one kind, part by part, as far as both go -/
def alk : Val → Val → Bool
  | .non, .non => true
  | .bl _, .bl _ => true
  | .int _, .int _ => true
  | .str _, .str _ => true
  | .tup xs, .tup ys => alks xs ys
  | _, _ => false
def alks : List Val → List Val → Bool
  | x :: xs, y :: ys => alk x y && alks xs ys
  | [], _ => true
  | _ :: _, [] => true
end
mutual
/-- x < y of such -/
def ltV : Val → Val → Bool
  | .bl a, .bl b => !a && b
  | .int i, .int j => decide (i < j)
  | .str a, .str b => decide (a < b)
  | .tup xs, .tup ys => ltVs xs ys
  | _, _ => false
def ltVs : List Val → List Val → Bool
  | x :: xs, y :: ys => if eqV x y then ltVs xs ys else ltV x y
  | [], _ :: _ => true
  | _, [] => false
end

def tupNe : Val → Bool
  | .tup (_ :: _) => true
  | _ => false
def atomB : Val → Bool
  | .bl _ => true
  | .int _ => true
  | .str _ => true
  | _ => false
/-- may be sorted: data of one kind, no None, no empty tuple -/
def srtOk (xs : List Val) : Bool := noRefs xs && (xs.all fun x => xs.all fun y => alk x y) && (xs.all tupNe || xs.all atomB) && decide (depths xs ≤ 58)
def srtV (xs : List Val) : List Val := xs.mergeSort fun x y => !ltV y x

/-! ### operations -/
inductive Op2 where
  | add | sub | mul | fdiv | mod | pow
inductive Cmp where
  | eq | ne | lt | le | gt | ge | isN | isNotN | inn | notIn
inductive Cl where
  | int | bool | str | tuple | list | dict | own (c : Nat)
  deriving DecidableEq
def small (i : Int) : Bool := decide (i.natAbs < 2 ^ 64)
def mid (i : Int) : Bool := decide (i.natAbs < 2 ^ 2000)
def mulOk (i j : Int) : Bool := small i || small j || (mid i && mid j)
def op2 (o : Op2) (a b : Val) (M : Store) : Res Val := match o, a, b with
  | .add, .int i, .int j => .ok (.int (i + j)) M
  | .sub, .int i, .int j => .ok (.int (i - j)) M
  | .mul, .int i, .int j => if mulOk i j then .ok (.int (i * j)) M else .bad
  | .fdiv, .int i, .int j => if decide (0 < j) && mid j then .ok (.int (i / j)) M else .bad
  | .mod, .int i, .int j => if decide (0 < j) then .ok (.int (i % j)) M else .bad
  | .pow, .int i, .int j => if decide (0 ≤ j) && decide (j ≤ 1000000) && small i then .ok (.int (i ^ j.toNat)) M else .bad
  | .add, .str x, .str y => if x.length + y.length ≤ LIM then .ok (.str (x ++ y)) M else .bad
  | .add, .tup x, .tup y => if x.length + y.length ≤ LIM then .ok (.tup (x ++ y)) M else .bad
  | .add, .ref m, .ref n => (match M[m]?, M[n]? with
    | some (.lst x), some (.lst y) => if x.length + y.length ≤ LIM then .ok (.ref M.length) (M ++ [.lst (x ++ y)]) else .bad
    | _, _ => .bad)
  | .mul, .str x, .int j => if decide (1 ≤ j) && decide (j ≤ 1000000) && decide (x.length * j.toNat ≤ LIM) then .ok (.str (List.replicate j.toNat x).flatten) M else .bad
  | _, _, _ => .bad
def isNon : Val → Bool
  | .non => true
  | _ => false
def flatB : Val → Bool
  | .non => true
  | .bl _ => true
  | .int _ => true
  | .str _ => true
  | _ => false
/-- equality of two lists of things without references -/
def eqL (M : Store) (m n : Nat) : Option Bool := match M[m]?, M[n]? with
  | some (.lst xs), some (.lst ys) => if noRefs xs && noRefs ys && decide (depths xs ≤ 59) && decide (depths ys ≤ 59) then some (eqVs xs ys) else none
  | _, _ => none
/-- is it among a row of things without references -/
def inl1 (neg : Bool) (x : Val) (xs : List Val) : Option Bool := if noRef x && noRefs xs && decide (depth x ≤ 60) && decide (depths xs ≤ 59) then some (if neg then !(xs.any fun z => eqV z x) else xs.any fun z => eqV z x) else none
def cmpV (o : Cmp) (a b : Val) (M : Store) : Option Bool := match o, a, b with
  | .isN, a, .non => some (isNon a)
  | .isNotN, a, .non => some (!isNon a)
  | .isN, .bl a, .bl b => some (decide (a = b))
  | .isNotN, .bl a, .bl b => some (!decide (a = b))
  | .lt, .tup xs, .tup ys => if noRefs xs && noRefs ys && alks xs ys && decide (depths xs ≤ 59) && decide (depths ys ≤ 59) then some (ltVs xs ys) else none
  | .eq, .tup xs, .tup [] => some xs.isEmpty
  | .ne, .tup xs, .tup [] => some (!xs.isEmpty)
  | .lt, .int i, .int j => some (decide (i < j))
  | .le, .int i, .int j => some (decide (i ≤ j))
  | .gt, .int i, .int j => some (decide (j < i))
  | .ge, .int i, .int j => some (decide (j ≤ i))
  | .lt, .str i, .str j => some (decide (i < j))
  | .le, .str i, .str j => some (!decide (j < i))
  | .eq, .ref m, .ref n => eqL M m n
  | .ne, .ref m, .ref n => (eqL M m n).map (!·)
  | .eq, a, b => if noRef a && noRef b && decide (depth a ≤ 60) && decide (depth b ≤ 60) then some (eqV a b) else none
  | .ne, a, b => if noRef a && noRef b && decide (depth a ≤ 60) && decide (depth b ≤ 60) then some (!eqV a b) else none
  | .inn, .str [c], .str y => some (decide (c ∈ y))
  | .notIn, .str [c], .str y => some (!decide (c ∈ y))
  | .inn, x, .tup ys => if flatB x && ys.all flatB then some (ys.any fun y => eqV y x) else none
  | .notIn, x, .tup ys => if flatB x && ys.all flatB then some (!ys.any fun y => eqV y x) else none
  | .inn, x, .ref n => (match M[n]? with
    | some (.lst xs) => inl1 false x xs
    | _ => none)
  | .notIn, x, .ref n => (match M[n]? with
    | some (.lst xs) => inl1 true x xs
    | _ => none)
  | _, _, _ => none
/-- the place of an index -/
def place (n : Nat) (i : Int) : Option Nat := if 0 ≤ i then (if i < n then some i.toNat else none) else if -(n : Int) ≤ i then some (i + n).toNat else none
def itemAt {α : Type} (xs : List α) (i : Int) : Option α := (place xs.length i).bind fun j => xs[j]?
def bound (n d : Nat) : Option Int → Nat
  | none => d
  | some v => if v < 0 then (v + (n : Int)).toNat else min v.toNat n
def cut {α : Type} (xs : List α) (lo hi : Option Int) : List α := (xs.drop (bound xs.length 0 lo)).take (bound xs.length xs.length hi - bound xs.length 0 lo)
def truth (M : Store) : Val → Option Bool
  | .non => some false
  | .bl b => some b
  | .int i => some (i != 0)
  | .str s => some (!s.isEmpty)
  | .tup xs => some (!xs.isEmpty)
  | .frz xs => some (!xs.isEmpty)
  | .ref n => match M[n]? with
    | some (.lst xs) => some (!xs.isEmpty)
    | _ => none
  | .fn _ => none
def isOf (c : Cl) (v : Val) (M : Store) : Option Bool := match c, v with
  | .own _, _ => none
  | _, .fn _ => none
  | .int, .int _ => some true
  | .int, .bl _ => some true
  | .bool, .bl _ => some true
  | .str, .str _ => some true
  | .tuple, .tup _ => some true
  | .list, .frz _ => some true
  | c, .ref n => match M[n]? with
    | some (.lst _) => some (decide (c = .list))
    | some (.dic _) => some (decide (c = .dict))
    | some (.exv _) => some false
    | some (.dit _) => some (decide (c = .dict))
    | none => none
  | _, _ => some false
/-- the items that are walked; what must not change meanwhile -/
abbrev Gd := List (Nat × List Val)
def itemsOf (M : Store) : Val → Option (List Val × Gd)
  | .tup xs => some (xs, [])
  | .frz xs => some (xs, [])
  | .str s => some (s.map fun c => .str [c], [])
  | .ref n => match M[n]? with
    | some (.lst xs) => some (xs, [(n, xs)])
    | _ => none
  | _ => none
def still (M : Store) (xs : List Val) : Gd → Prop
  | [] => True
  | p :: r => M[p.1]? = some (.lst p.2) ∧ still M xs r
def lenV (M : Store) (v : Val) : Option Nat := match v with
  | .str s => some s.length
  | .tup xs => some xs.length
  | .frz xs => some xs.length
  | .ref n => match M[n]? with
    | some (.lst xs) => some xs.length
    | _ => none
  | _ => none
def up (c : Nat) : Nat := if 97 ≤ c ∧ c ≤ 122 then c - 32 else c

/-! ### the language -/
def pairUp : List Val → List (Val × Val)
  | k :: v :: r => (k, v) :: pairUp r
  | _ => []
def keyE : Val → Val → Bool
  | .int i, .int j => i == j
  | .str x, .str y => x == y
  | _, _ => false
def keyV : Val → Bool
  | .int _ => true
  | .str _ => true
  | _ => false
/-- keys that are ints and texts, all unlike -/
def keysOk : List (Val × Val) → Bool
  | [] => true
  | p :: r => keyV p.1 && (r.all fun q => !keyE p.1 q.1) && keysOk r
inductive Bi where
  | len | int | tuple | repr | abs
inductive Bil where
  | all | any | sum | tuple
inductive Bn where
  | min | max
inductive Md where
  | pop | append | insert
inductive Mt where
  | isascii | isprintable | upper
inductive Tg where
  | one (i : Nat) | many (is : List Nat)
mutual
inductive E where
  | var (i : Nat) | cst (v : Val) | op (o : Op2) (a b : E) | cmp (o : Cmp) (a b : E) | chain (o p : Cmp) (a b c : E)
  | neg (a : E) | not (a : E) | and (a b : E) | or (a b : E) | ite (c a b : E)
  | tup (es : Es) | lst (l : L) | dic (kvs : Es) | ix (a i : E) | ixl (l : L) (i : E) | sl (a : E) (lo hi : Eo)
  | isi (a : E) (c : Cl) | call (g : Nat) (es : Es) | bi (b : Bi) (a : E) | bil (b : Bil) (l : L) | mt (m : Mt) (a : E) | join (a : E) (l : L)
  | newx (c : Nat)
  | inl (neg : Bool) (a : E) (l : L) | bin (b : Bn) (x y : E) | joinv (a e : E) | mtd (m : Md) (o : E) (es : Es)
  | callv (i : Nat) (es : Es) | tget (x : PySem.Str) (a : E) | tin (neg : Bool) (a : E) (x : PySem.Str) | isis (a : E) (cs : List Cl) | rev (a : E) | tupx (r : Sx)
inductive Es where
  | nil | cons (e : E) (es : Es)
inductive Sx where
  | nil | cons (e : E) (r : Sx) | star (e : E) (r : Sx)
inductive Eo where
  | none | some (e : E)
inductive L where
  | disp (es : Es) | comp (own : List Nat) (t : Tg) (src : Src) (cs : Es) (e : E) | list (e : E) | sl (a : E) (lo hi : Eo) | rng2 (a b : E) | srt (a : E)
inductive Src where
  | seq (e : E) | fresh (l : L) | rng (a : E) | zip (a b : E) | rng2 (a b : E)
end
mutual
inductive S where
  | set (i : Nat) (e : E) | unp (is : List Nat) (e : E) | par (i j : Nat) (a b : E) | par3 (i j k : Nat) (a b c : E) | six (o i v : E) | sixk (o a : E) (lo hi : Eo) (v : E) | expr (e : E) | ret (e : E) | retN | aug (i : Nat) (neg : Bool) (e : E)
  | ite (c : E) (a b : Ss) | loop (t : Tg) (src : Src) (b : Ss) | whl (c : E) (b : Ss) | brk | cnt | pass
  | rais (c : Nat) | tri (b : Ss) (hs : Hs)
inductive Ss where
  | nil | cons (s : S) (ss : Ss)
inductive Hs where
  | nil | cons (c : Nat) (b : Ss) (hs : Hs)
end
/-! ### its runs -/
def wiped (σ : St) : List Nat → St
  | [] => σ
  | v :: vs => (wiped σ vs).set v none
def put (t : Tg) (v : Val) (σ : St) : Option St := match t with
  | .one i => some (σ.set i (some v))
  | .many is => match v with
    | .tup xs => if xs.length = is.length then some ((is.zip xs).foldl (fun s p => s.set p.1 (some p.2)) σ) else none
    | _ => none
open Classical in
/-- a comprehension's turns -/
noncomputable def turns (f : Val → Store → Res (Option Val)) (all : List Val) (g : Gd) : List Val → Store → Res (List Val)
  | [], M => if still M all g then .ok [] M else .bad
  | x :: xs, M => if still M all g then (f x M).calm.bind fun y M1 => (turns f all g xs M1).bind fun ys M2 => .ok (match y with | some y => y :: ys | none => ys) M2 else .bad
def ofOpt {α : Type} (o : Option α) (M : Store) : Res α := match o with
  | some a => .ok a M
  | none => .bad
def strsOf : List Val → Option (List (List Nat))
  | [] => some []
  | .str s :: xs => (strsOf xs).map (s :: ·)
  | _ :: _ => none
def intsOf : List Val → Option (List Int)
  | [] => some []
  | .int i :: xs => (intsOf xs).map (i :: ·)
  | _ :: _ => none
def joined (sep : List Nat) : List (List Nat) → List Nat
  | [] => []
  | [x] => x
  | x :: y :: r => x ++ sep ++ joined sep (y :: r)
def boolsOf : List Val → Option (List Bool)
  | [] => some []
  | .bl b :: xs => (boolsOf xs).map (b :: ·)
  | _ :: _ => none
abbrev CallF := Nat → List Val → Store → Res Val
/-- the module's defs by name, its tables with text keys -/
structure Gx where
  fno : PySem.Str → Option Nat
  tab : PySem.Str → Option (List (List Nat × Val))
/-- what is known of the world: calls, repr -/
structure Cf where
  call : CallF
  repr : Val → Store → Option (List Nat)
  eqx : Gx
  sub : Nat → Nat → Bool
def bi1 (cf : Cf) (b : Bi) (v : Val) (M : Store) : Res Val := match b with
  | .len => ofOpt ((lenV M v).map fun (n : Nat) => Val.int (n : Int)) M
  | .int => match v with
    | .int i => .ok (.int i) M
    | .bl k => .ok (.int (if k then 1 else 0)) M
    | _ => .bad
  | .tuple => match v with
    | .tup xs => .ok (.tup xs) M
    | .ref n => match M[n]? with
      | some (.lst xs) => .ok (.tup xs) M
      | _ => .bad
    | _ => .bad
  | .repr => ofOpt ((cf.repr v M).map fun s => .str s) M
  | .abs => match v with
    | .int i => .ok (.int (if i < 0 then -i else i)) M
    | _ => .bad
def bil1 (b : Bil) (xs : List Val) (M : Store) : Res Val := match b with
  | .all => ofOpt ((boolsOf xs).map fun bs => .bl (bs.all id)) M
  | .any => ofOpt ((boolsOf xs).map fun bs => .bl (bs.any id)) M
  | .sum => ofOpt ((intsOf xs).map fun ns => .int ns.sum) M
  | .tuple => .ok (.tup xs) M
def mt1 (m : Mt) (v : Val) (M : Store) : Res Val := match m, v with
  | .isascii, .str _ => .ok (.bl true) M
  | .isprintable, .str s => .ok (.bl (s.all fun c => decide (32 ≤ c ∧ c ≤ 126))) M
  | .upper, .str s => if decide (s.length ≤ 5592405) then .ok (.str (s.map up)) M else .bad
  | _, _ => .bad
def slV (v : Val) (lo hi : Option Int) (M : Store) : Res Val := match v with
  | .str s => .ok (.str (cut s lo hi)) M
  | .tup xs => .ok (.tup (cut xs lo hi)) M
  | .frz xs => .ok (.ref M.length) (M ++ [.lst (cut xs lo hi)])
  | .ref n => match M[n]? with
    | some (.lst xs) => .ok (.ref M.length) (M ++ [.lst (cut xs lo hi)])
    | _ => .bad
  | _ => .bad
/-- what a dict holds -/
def dicGet (kvs : List (Val × Val)) (y : Val) : Option Val := (kvs.find? fun p => keyE p.1 y).map (·.2)
/-- a dict with another value for a key -/
def dicPut (kvs : List (Val × Val)) (y z : Val) : List (Val × Val) := if (kvs.any fun p => keyE p.1 y) = true then kvs.map (fun p => if keyE p.1 y = true then (p.1, z) else p) else kvs ++ [(y, z)]
/-- keys that are tuples of ints and texts -/
def keysE : List Val → List Val → Bool
  | [], [] => true
  | x :: xs, y :: ys => keyE x y && keysE xs ys
  | _, _ => false
def ditGet (kvs : List (List Val × Val)) (ks : List Val) : Option Val := (kvs.find? fun p => keysE p.1 ks).map (·.2)
def ditPut (kvs : List (List Val × Val)) (ks : List Val) (z : Val) : List (List Val × Val) := if (kvs.any fun p => keysE p.1 ks) = true then kvs.map (fun p => if keysE p.1 ks = true then (p.1, z) else p) else kvs ++ [(ks, z)]
def ixV (v i : Val) (M : Store) : Option Val := match v, i with
  | .str s, .int k => (itemAt s k).map fun c => .str [c]
  | .tup xs, .int k => itemAt xs k
  | .frz xs, .int k => itemAt xs k
  | .ref n, y => match M[n]? with
    | some (.lst xs) => (match y with
      | .int k => itemAt xs k
      | _ => none)
    | some (.dic kvs) => dicGet kvs y
    | some (.dit kvs) => (match y with
      | .tup ks => if ks.all keyV then ditGet kvs ks else none
      | _ => none)
    | _ => none
  | _, _ => none
def bin1 (b : Bn) (x y : Val) (M : Store) : Res Val := match b, x, y with
  | .min, .int i, .int j => .ok (.int (if j < i then j else i)) M
  | .max, .int i, .int j => .ok (.int (if j > i then j else i)) M
  | _, _, _ => .bad
def isLst (M : Store) : Val → Bool
  | .ref n => match M[n]? with
    | some (.lst _) => true
    | _ => false
  | _ => false
/-- a method of a list, that may change it -/
def mtd1 (m : Md) (v : Val) (args : List Val) (M : Store) : Res Val := match v with
  | .ref n => match M[n]? with
    | some (.lst xs) => match m, args with
      | .append, [y] => if xs.length < LIM then .ok .non (M.set n (.lst (xs ++ [y]))) else .bad
      | .pop, [.int i] => match place xs.length i with
        | some k => match xs[k]? with
          | some y => .ok y (M.set n (.lst (xs.eraseIdx k)))
          | none => .bad
        | none => .bad
      | .pop, [] => match xs[xs.length - 1]? with
        | some y => .ok y (M.set n (.lst xs.dropLast))
        | none => .bad
      | .insert, [.int i, y] => if decide (0 ≤ i) && decide (i < 2 ^ 63) && decide (xs.length < LIM) then .ok .non (M.set n (.lst (xs.take i.toNat ++ [y] ++ xs.drop i.toNat))) else .bad
      | _, _ => .bad
    | _ => .bad
  | _ => .bad
def tabGet (g : Gx) (x : PySem.Str) (y : Val) : Option Val := match y with
  | .str s => (g.tab x).bind fun kvs => (kvs.find? fun p => p.1 == s).map (·.2)
  | _ => none
def tabIn (g : Gx) (x : PySem.Str) (y : Val) : Option Bool := match y with
  | .str s => (g.tab x).map fun kvs => kvs.any fun p => p.1 == s
  | _ => none
def noExv (M : Store) : Val → Bool
  | .ref n => match M[n]? with
    | some (.exv _) => false
    | _ => true
  | _ => true
def anyOf : List Cl → Val → Store → Option Bool
  | [], _, _ => some false
  | c :: cs, v, M => match isOf c v M with
    | some true => some true
    | some false => anyOf cs v M
    | none => none
def isOfs (cs : List Cl) (v : Val) (M : Store) : Option Bool := if noExv M v && !cs.isEmpty && decide (cs.length ≤ 10) then anyOf cs v M else none
def asInt : Val → Option Int
  | .int i => some i
  | _ => none
/-- range(i, j): its items -/
def rngV (i j : Int) : List Val := (List.range (j - i).toNat).map fun k => .int (i + (k : Nat))
def rngOk (i j : Int) : Bool := decide (-(2 ^ 62) ≤ i) && decide (i < 2 ^ 62) && decide (-(2 ^ 62) ≤ j) && decide (j < 2 ^ 62) && decide (j - i ≤ 16777216)
/-- pairs of two rows -/
def zipV : List Val → List Val → List Val
  | x :: xs, y :: ys => .tup [x, y] :: zipV xs ys
  | _, _ => []
/-- x[w[l:h]] = z, the key being a part of w -/
def sixkV (x w : Val) (l h : Option Int) (z : Val) (M : Store) : Option Store := match x, w with
  | .ref n, .tup xs => if (cut xs l h).all keyV && decide ((cut xs l h).length < xs.length) then (match M[n]? with
    | some (.dic kvs) => if kvs.isEmpty then some (M.set n (.dit [(cut xs l h, z)])) else none
    | some (.dit kvs) => if decide (kvs.length < LIM) then some (M.set n (.dit (ditPut kvs (cut xs l h) z))) else none
    | _ => none) else none
  | _, _ => none
/-- the items that a starred thing stands for -/
def starV (M : Store) : Val → Option (List Val)
  | .tup xs => some xs
  | .frz xs => some xs
  | .ref n => match M[n]? with
    | some (.lst xs) => some xs
    | _ => none
  | _ => none
mutual
noncomputable def ev (cf : Cf) : E → St → Store → Res Val
  | .var i, σ, M => match σ[i]? with
    | some (some v) => .ok v M
    | _ => .bad
  | .cst v, _, M => .ok v M
  | .op o a b, σ, M => (ev cf a σ M).bind fun x M1 => (ev cf b σ M1).bind fun y M2 => op2 o x y M2
  | .cmp o a b, σ, M => (ev cf a σ M).bind fun x M1 => (ev cf b σ M1).bind fun y M2 => ofOpt ((cmpV o x y M2).map .bl) M2
  | .chain o p a b c, σ, M => (ev cf a σ M).bind fun x M1 => (ev cf b σ M1).bind fun y M2 => (ofOpt (cmpV o x y M2) M2).bind fun k M3 =>
    if k then (ev cf c σ M3).bind fun z M4 => ofOpt ((cmpV p y z M4).map .bl) M4 else .ok (.bl false) M3
  | .neg a, σ, M => (ev cf a σ M).bind fun x M1 => match x with
    | .int i => .ok (.int (-i)) M1
    | _ => .bad
  | .not a, σ, M => (ev cf a σ M).bind fun x M1 => (ofOpt (truth M1 x) M1).bind fun k M2 => .ok (.bl (!k)) M2
  | .and a b, σ, M => (ev cf a σ M).bind fun x M1 => (ofOpt (truth M1 x) M1).bind fun k M2 => if k then ev cf b σ M2 else .ok x M2
  | .or a b, σ, M => (ev cf a σ M).bind fun x M1 => (ofOpt (truth M1 x) M1).bind fun k M2 => if k then .ok x M2 else ev cf b σ M2
  | .ite c a b, σ, M => (ev cf c σ M).bind fun x M1 => (ofOpt (truth M1 x) M1).bind fun k M2 => if k then ev cf a σ M2 else ev cf b σ M2
  | .tup es, σ, M => (evs cf es σ M).bind fun xs M1 => if xs.length ≤ LIM then .ok (.tup xs) M1 else .bad
  | .lst l, σ, M => (evL cf l σ M).bind fun xs M1 => .ok (.ref M1.length) (M1 ++ [.lst xs])
  | .dic kvs, σ, M => (evs cf kvs σ M).bind fun xs M1 => if keysOk (pairUp xs) then .ok (.ref M1.length) (M1 ++ [.dic (pairUp xs)]) else .bad
  | .ix a i, σ, M => (ev cf a σ M).bind fun x M1 => (ev cf i σ M1).bind fun y M2 => ofOpt (ixV x y M2) M2
  | .ixl l i, σ, M => (evL cf l σ M).bind fun xs M1 => (ev cf i σ M1).bind fun y M2 => ofOpt ((asInt y).bind (itemAt xs)) M2
  | .sl a lo hi, σ, M => (ev cf a σ M).bind fun x M1 => (evo cf lo σ M1).bind fun l M2 => (evo cf hi σ M2).bind fun h M3 => slV x l h M3
  | .isi a c, σ, M => (ev cf a σ M).bind fun x M1 => ofOpt ((isOf c x M1).map .bl) M1
  | .call g es, σ, M => (evs cf es σ M).bind fun xs M1 => cf.call g xs M1
  | .bi b a, σ, M => (ev cf a σ M).bind fun x M1 => bi1 cf b x M1
  | .bil b l, σ, M => (evL cf l σ M).bind fun xs M1 => bil1 b xs M1
  | .mt m a, σ, M => (ev cf a σ M).bind fun x M1 => mt1 m x M1
  | .join a l, σ, M => (ev cf a σ M).bind fun x M1 => match x with
    | .str sep => (evL cf l σ M1).bind fun xs M2 => match strsOf xs with
      | some zs => if (zs.map List.length).sum + zs.length * sep.length ≤ LIM then .ok (.str (joined sep zs)) M2 else .bad
      | none => .bad
    | _ => .bad
  | .newx c, _, M => .ok (.ref M.length) (M ++ [.exv c])
  | .inl g a l, σ, M => (ev cf a σ M).bind fun x M1 => (evL cf l σ M1).bind fun xs M2 => ofOpt ((inl1 g x xs).map .bl) M2
  | .bin b x y, σ, M => (ev cf x σ M).bind fun i M1 => (ev cf y σ M1).bind fun j M2 => bin1 b i j M2
  | .joinv a e, σ, M => (ev cf a σ M).bind fun x M1 => match x with
    | .str sep => (ev cf e σ M1).bind fun v M2 => match v with
      | .ref n => match M2[n]? with
        | some (.lst xs) => match strsOf xs with
          | some zs => if (zs.map List.length).sum + zs.length * sep.length ≤ LIM then .ok (.str (joined sep zs)) M2 else .bad
          | none => .bad
        | _ => .bad
      | _ => .bad
    | _ => .bad
  | .callv i es, σ, M => (match σ[i]? with
    | some (some (.fn x)) => (match cf.eqx.fno x with
      | some g => (evs cf es σ M).bind fun xs M1 => cf.call g xs M1
      | none => .bad)
    | _ => .bad)
  | .tget x a, σ, M => (ev cf a σ M).bind fun y M1 => ofOpt (tabGet cf.eqx x y) M1
  | .rev a, σ, M => (ev cf a σ M).bind fun x M1 => match x with
    | .tup xs => .ok (.tup xs.reverse) M1
    | _ => .bad
  | .tupx r, σ, M => (evx cf r σ M).bind fun xs M1 => if xs.length ≤ LIM then .ok (.tup xs) M1 else .bad
  | .tin g a x, σ, M => (ev cf a σ M).bind fun y M1 => ofOpt ((tabIn cf.eqx x y).map fun k => .bl (if g then !k else k)) M1
  | .isis a cs, σ, M => (ev cf a σ M).bind fun x M1 => ofOpt ((isOfs cs x M1).map .bl) M1
  | .mtd m o es, σ, M => (ev cf o σ M).bind fun x M1 => if isLst M1 x then (evs cf es σ M1).bind fun xs M2 => mtd1 m x xs M2 else .bad
noncomputable def evs (cf : Cf) : Es → St → Store → Res (List Val)
  | .nil, _, M => .ok [] M
  | .cons e es, σ, M => (ev cf e σ M).bind fun x M1 => (evs cf es σ M1).bind fun xs M2 => .ok (x :: xs) M2
noncomputable def evx (cf : Cf) : Sx → St → Store → Res (List Val)
  | .nil, _, M => .ok [] M
  | .cons e es, σ, M => (ev cf e σ M).bind fun x M1 => (evx cf es σ M1).bind fun xs M2 => .ok (x :: xs) M2
  | .star e es, σ, M => (ev cf e σ M).bind fun x M1 => match starV M1 x with
    | some ys => (evx cf es σ M1).bind fun xs M2 => .ok (ys ++ xs) M2
    | none => .bad
noncomputable def evo (cf : Cf) : Eo → St → Store → Res (Option Int)
  | .none, _, M => .ok none M
  | .some e, σ, M => (ev cf e σ M).bind fun x M1 => match x with
    | .int i => .ok (some i) M1
    | _ => .bad
/-- a clause's tests, one after another -/
noncomputable def evt (cf : Cf) : Es → St → Store → Res Bool
  | .nil, _, M => .ok true M
  | .cons e es, σ, M => (ev cf e σ M).bind fun x M1 => (ofOpt (truth M1 x) M1).bind fun k M2 => if k then evt cf es σ M2 else .ok false M2
noncomputable def evL (cf : Cf) : L → St → Store → Res (List Val)
  | .disp es, σ, M => (evs cf es σ M).bind fun xs M1 => if xs.length ≤ LIM then .ok xs M1 else .bad
  | .comp own t src cs e, σ, M => (evS cf src σ M).bind fun p M1 => (turns (fun x M2 => match put t x (wiped σ own) with
      | some σ2 => (evt cf cs σ2 M2).bind fun k M3 => if k then (ev cf e σ2 M3).bind fun y M4 => .ok (some y) M4 else .ok none M3
      | none => .bad) p.1 p.2 p.1 M1).bind fun ys M5 => if ys.length ≤ LIM then .ok ys M5 else .bad
  | .list a, σ, M => (ev cf a σ M).bind fun x M1 => match x with
    | .tup xs => .ok xs M1
    | .frz xs => .ok xs M1
    | .ref n => match M1[n]? with
      | some (.lst xs) => .ok xs M1
      | _ => .bad
    | _ => .bad
  | .sl a lo hi, σ, M => (ev cf a σ M).bind fun x M1 => (evo cf lo σ M1).bind fun l M2 => (evo cf hi σ M2).bind fun h M3 => match x with
    | .frz xs => .ok (cut xs l h) M3
    | .ref n => match M3[n]? with
      | some (.lst xs) => .ok (cut xs l h) M3
      | _ => .bad
    | _ => .bad
  | .srt a, σ, M => (ev cf a σ M).bind fun x M1 => match x with
    | .ref n => match M1[n]? with
      | some (.lst xs) => if srtOk xs then .ok (srtV xs) M1 else .bad
      | some (.dit kvs) => if srtOk (kvs.map fun p => .tup p.1) then .ok (srtV (kvs.map fun p => .tup p.1)) M1 else .bad
      | some (.dic kvs) => if kvs.isEmpty then .ok [] M1 else .bad
      | _ => .bad
    | _ => .bad
  | .rng2 a b, σ, M => (ev cf a σ M).bind fun x M1 => (ev cf b σ M1).bind fun y M2 => match x, y with
    | .int i, .int j => if rngOk i j then .ok (rngV i j) M2 else .bad
    | _, _ => .bad
noncomputable def evS (cf : Cf) : Src → St → Store → Res (List Val × Gd)
  | .seq e, σ, M => (ev cf e σ M).bind fun x M1 => ofOpt (itemsOf M1 x) M1
  | .fresh l, σ, M => (evL cf l σ M).bind fun xs M1 => .ok (xs, []) M1
  | .rng a, σ, M => (ev cf a σ M).bind fun x M1 => match x with
    | .int j => if decide (j < 2 ^ 62) && decide (-(2 ^ 62) ≤ j) then .ok ((List.range j.toNat).map fun i => .int (i : Nat), []) M1 else .bad
    | _ => .bad
  | .zip a b, σ, M => (ev cf a σ M).bind fun x M1 => (ev cf b σ M1).bind fun y M2 => match x, y with
    | .tup xs, .tup ys => .ok (zipV xs ys, []) M2
    | .ref m, .ref n => (match M2[m]?, M2[n]? with
      | some (.lst xs), some (.lst ys) => .ok (zipV xs ys, [(m, xs), (n, ys)]) M2
      | _, _ => .bad)
    | _, _ => .bad
  | .rng2 a b, σ, M => (ev cf a σ M).bind fun x M1 => (ev cf b σ M1).bind fun y M2 => match x, y with
    | .int i, .int j => if rngOk i j then .ok (rngV i j, []) M2 else .bad
    | _, _ => .bad
end
inductive Out where
  | nx (σ : St) (M : Store) | ret (v : Val) (M : Store) | brk (σ : St) (M : Store) | cnt (σ : St) (M : Store) | exc (x : Exc) (σ : St) (M : Store) | bad
def Out.on {α : Type} (r : Res α) (σ : St) (f : α → Store → Out) : Out := match r with
  | .ok a M => f a M
  | .exc x M => .exc x σ M
  | .bad => .bad
@[simp] theorem Out.on_ok {α : Type} (a : α) (M : Store) (σ : St) (f : α → Store → Out) : Out.on (Res.ok a M) σ f = f a M := rfl
@[simp] theorem Out.on_exc {α : Type} (x : Exc) (M : Store) (σ : St) (f : α → Store → Out) : Out.on (Res.exc x M : Res α) σ f = .exc x σ M := rfl
@[simp] theorem Out.on_bad {α : Type} (σ : St) (f : α → Store → Out) : Out.on (Res.bad : Res α) σ f = .bad := rfl
def Out.seq (r : Out) (f : St → Store → Out) : Out := match r with
  | .nx σ M => f σ M
  | r => r
@[simp] theorem Out.seq_nx (σ : St) (M : Store) (f : St → Store → Out) : (Out.nx σ M).seq f = f σ M := rfl
@[simp] theorem Out.seq_ret (v : Val) (M : Store) (f : St → Store → Out) : (Out.ret v M).seq f = .ret v M := rfl
@[simp] theorem Out.seq_brk (σ : St) (M : Store) (f : St → Store → Out) : (Out.brk σ M).seq f = .brk σ M := rfl
@[simp] theorem Out.seq_cnt (σ : St) (M : Store) (f : St → Store → Out) : (Out.cnt σ M).seq f = .cnt σ M := rfl
@[simp] theorem Out.seq_exc (x : Exc) (σ : St) (M : Store) (f : St → Store → Out) : (Out.exc x σ M).seq f = .exc x σ M := rfl
@[simp] theorem Out.seq_bad (f : St → Store → Out) : Out.bad.seq f = .bad := rfl
/-- behind a turn of a loop: on, or out of it -/
def Out.turn (r : Out) (f : St → Store → Out) : Out := match r with
  | .nx σ M => f σ M
  | .cnt σ M => f σ M
  | .brk σ M => .nx σ M
  | r => r
@[simp] theorem Out.turn_nx (σ : St) (M : Store) (f : St → Store → Out) : (Out.nx σ M).turn f = f σ M := rfl
@[simp] theorem Out.turn_cnt (σ : St) (M : Store) (f : St → Store → Out) : (Out.cnt σ M).turn f = f σ M := rfl
@[simp] theorem Out.turn_brk (σ : St) (M : Store) (f : St → Store → Out) : (Out.brk σ M).turn f = .nx σ M := rfl
@[simp] theorem Out.turn_ret (v : Val) (M : Store) (f : St → Store → Out) : (Out.ret v M).turn f = .ret v M := rfl
@[simp] theorem Out.turn_exc (x : Exc) (σ : St) (M : Store) (f : St → Store → Out) : (Out.exc x σ M).turn f = .exc x σ M := rfl
@[simp] theorem Out.turn_bad (f : St → Store → Out) : Out.bad.turn f = .bad := rfl
/-- where nothing may be raised -/
def Out.calm (r : Out) : Out := match r with
  | .exc _ _ _ => .bad
  | r => r
@[simp] theorem Out.calm_nx (σ : St) (M : Store) : (Out.nx σ M).calm = .nx σ M := rfl
@[simp] theorem Out.calm_ret (v : Val) (M : Store) : (Out.ret v M).calm = .ret v M := rfl
@[simp] theorem Out.calm_brk (σ : St) (M : Store) : (Out.brk σ M).calm = .brk σ M := rfl
@[simp] theorem Out.calm_cnt (σ : St) (M : Store) : (Out.cnt σ M).calm = .cnt σ M := rfl
@[simp] theorem Out.calm_exc (x : Exc) (σ : St) (M : Store) : (Out.exc x σ M).calm = .bad := rfl
@[simp] theorem Out.calm_bad : Out.bad.calm = .bad := rfl
open Classical in
noncomputable def rounds (f : Val → St → Store → Out) (all : List Val) (g : Gd) : List Val → St → Store → Out
  | [], σ, M => if still M all g then .nx σ M else .bad
  | x :: xs, σ, M => if still M all g then (f x σ M).turn fun σ1 M1 => rounds f all g xs σ1 M1 else .bad
def whiles (t : St → Store → Res Bool) (f : St → Store → Out) : Nat → St → Store → Out
  | 0, _, _ => .bad
  | n + 1, σ, M => Out.on (t σ M) σ fun k M1 => if k then (f σ M1).turn fun σ2 M2 => whiles t f n σ2 M2 else .nx σ M1
def WHL : Nat := 1000000000000
mutual
noncomputable def ex (cf : Cf) : S → St → Store → Out
  | .set i e, σ, M => Out.on (ev cf e σ M) σ fun v M1 => .nx (σ.set i (some v)) M1
  | .unp is e, σ, M => Out.on (ev cf e σ M) σ fun v M1 => match put (.many is) v σ with
    | some σ1 => .nx σ1 M1
    | none => .bad
  | .par i j a b, σ, M => Out.on (ev cf a σ M) σ fun x M1 => Out.on (ev cf b σ M1) σ fun y M2 => .nx ((σ.set i (some x)).set j (some y)) M2
  | .aug i neg e, σ, M => match σ[i]? with
    | some (some (.int a)) => Out.on (ev cf e σ M) σ fun y M1 => match y with
      | .int b => .nx (σ.set i (some (.int (if neg then a - b else a + b)))) M1
      | _ => .bad
    | _ => .bad
  | .par3 i j k a b c, σ, M => Out.on (ev cf a σ M) σ fun x M1 => Out.on (ev cf b σ M1) σ fun y M2 => Out.on (ev cf c σ M2) σ fun z M3 => .nx (((σ.set i (some x)).set j (some y)).set k (some z)) M3
  | .six o i v, σ, M => Out.on (ev cf v σ M) σ fun z M1 => Out.on (ev cf o σ M1) σ fun x M2 => Out.on (ev cf i σ M2) σ fun y M3 => match x, y with
    | .ref n, y => match M3[n]? with
      | some (.lst xs) => (match y with
        | .int k => (match place xs.length k with
          | some j => .nx σ (M3.set n (.lst (xs.set j z)))
          | none => .bad)
        | _ => .bad)
      | some (.dic kvs) => if keyV y && decide (kvs.length < LIM) then .nx σ (M3.set n (.dic (dicPut kvs y z))) else .bad
      | _ => .bad
    | _, _ => .bad
  | .sixk o a lo hi v, σ, M => Out.on (ev cf v σ M) σ fun z M1 => Out.on (ev cf o σ M1) σ fun x M2 => Out.on (ev cf a σ M2) σ fun w M3 => Out.on (evo cf lo σ M3) σ fun l M4 => Out.on (evo cf hi σ M4) σ fun h M5 => match sixkV x w l h z M5 with
    | some M6 => .nx σ M6
    | none => .bad
  | .expr e, σ, M => Out.on (ev cf e σ M) σ fun _ M1 => .nx σ M1
  | .ret e, σ, M => Out.on (ev cf e σ M) σ fun v M1 => .ret v M1
  | .retN, _, M => .ret .non M
  | .ite c a b, σ, M => Out.on (ev cf c σ M) σ fun x M1 => Out.on (ofOpt (truth M1 x) M1) σ fun k M2 => if k then exs cf a σ M2 else exs cf b σ M2
  | .loop t src b, σ, M => Out.on (evS cf src σ M) σ fun p M1 => rounds (fun x σ1 M2 => match put t x σ1 with
      | some σ2 => exs cf b σ2 M2
      | none => .bad) p.1 p.2 p.1 σ M1
  | .whl c b, σ, M => whiles (fun σ1 M1 => (ev cf c σ1 M1).bind fun x M2 => ofOpt (truth M2 x) M2) (fun σ1 M1 => exs cf b σ1 M1) WHL σ M
  | .brk, σ, M => .brk σ M
  | .cnt, σ, M => .cnt σ M
  | .pass, σ, M => .nx σ M
  | .rais c, σ, M => .exc ⟨c, none⟩ σ M
  | .tri b hs, σ, M => match exs cf b σ M with
    | .exc x σ1 M1 => hand cf hs x σ1 M1
    | r => r
noncomputable def exs (cf : Cf) : Ss → St → Store → Out
  | .nil, σ, M => .nx σ M
  | .cons s ss, σ, M => (ex cf s σ M).seq fun σ1 M1 => exs cf ss σ1 M1
noncomputable def hand (cf : Cf) : Hs → Exc → St → Store → Out
  | .nil, x, σ, M => .exc x σ M
  | .cons c b hs, x, σ, M => if cf.sub x.cls c then (exs cf b σ M).calm else hand cf hs x σ M
end
/-! ### a program -/
structure Def where
  params : Nat
  slots : Nat
  body : Ss
def start (d : Def) (vs : List Val) : St := vs.map some ++ List.replicate (d.slots - vs.length) none
/-- what a call leaves -/
def back (M : Store) : Out → Res Val
  | .nx _ M' => .ok .non M'
  | .ret v M' => .ok v M'
  | .exc x _ M' => .exc x M'
  | _ => .bad
structure Prog where
  defs : List Def
  repr : Val → Store → Option (List Nat)
  eqx : Gx
  sub : Nat → Nat → Bool
noncomputable def call (P : Prog) : Nat → CallF
  | 0 => fun _ _ _ => .bad
  | n + 1 => fun g vs M => match P.defs[g]? with
    | some d => if vs.length = d.params then back M (exs ⟨call P n, P.repr, P.eqx, P.sub⟩ d.body (start d vs) M) else .bad
    | none => .bad
end Mi
end MiCoreS

section MiRelS
set_option Elab.async false
set_option linter.all false
set_option maxRecDepth 100000
/-! how a value of the small language lies in the abstract heap -/
namespace Mi
open PySem L2

structure Gs where
  K : PySem.W.Frag
  cls : Nat → Addr
def toS (s : List Nat) : Str := ⟨s.toArray⟩
@[simp] theorem toS_length (s : List Nat) : (toS s).length = s.length := by simp [toS, Str.length]
@[simp] theorem toS_list (s : List Nat) : (toS s).cps.toList = s := by simp [toS]
theorem toS_inj {a b : List Nat} (h : toS a = toS b) : a = b := by
  have := congrArg (fun x : Str => x.cps.toList) h
  simpa using this
theorem lim_eq : LIM = sizeLine := by rw [sizeLine_eq]; rfl
/-- short, and of plain signs -/
def okS (s : List Nat) : Prop := s.length ≤ LIM ∧ ∀ c ∈ s, c < 128
theorem lim_val : LIM = 16777216 := rfl

structure Ext (H H' : Hp) : Prop where
  tups : ∀ b xs, H b = some (.tup xs) → H' b = some (.tup xs)
  frzs : ∀ b o u, H b = some (.frz o u) → H' b = some (.frz o u)
theorem Ext.refl (H : Hp) : Ext H H := ⟨fun _ _ h => h, fun _ _ _ h => h⟩
theorem Ext.trans {H H1 H2 : Hp} (a : Ext H H1) (b : Ext H1 H2) : Ext H H2 := ⟨fun c xs h => b.tups c xs (a.tups c xs h), fun c o u h => b.frzs c o u (a.frzs c o u h)⟩
theorem Ext.new {H : Hp} {p : Addr} {o : HO} (h : H p = none) : Ext H (upd H p o) :=
  ⟨fun b xs e => by rw [upd_ne (ne_of_none e h)]; exact e, fun b ob u e => by rw [upd_ne (ne_of_none e h)]; exact e⟩
theorem Ext.mut {H : Hp} {p : Addr} {o : HO} (h : L2.Mut (H p)) : Ext H (upd H p o) :=
  ⟨fun b ys e => by rw [upd_ne (fun z => by subst z; rw [e] at h; exact h)]; exact e, fun b ob u e => by rw [upd_ne (fun z => by subst z; rw [e] at h; exact h)]; exact e⟩
theorem mut_lst {H : Hp} {p : Addr} {xs : List V} (h : H p = some (.lst xs)) : L2.Mut (H p) := by rw [h]; exact True.intro
theorem mut_dK {H : Hp} {p : Addr} {xs : List (Key × V)} (h : H p = some (.dK xs)) : L2.Mut (H p) := by rw [h]; exact True.intro
theorem Ext.rdT {H H' : Hp} {a : Addr} {xs : List V} (e : Ext H H') (h : Rd H a (.tup xs)) : Rd H' a (.tup xs) := by
  rcases h with h | ⟨o, h⟩
  · exact .inl (e.tups _ _ h)
  · exact .inr ⟨o, e.frzs _ _ _ h⟩
theorem Ext.sqT {K : PySem.W.Frag} {H H' : Hp} {a : Addr} {xs : List V} (e : Ext H H') (h : SqT K H a xs) : SqT K H' a xs := by
  rcases h with h | h
  · exact .inl (e.rdT h)
  · exact .inr h
/-- later: more references, all new ones to places that were free; tuples stay, places don't get free, what is not ours stays -/
structure Le (ι : List Addr) (H : Hp) (ι' : List Addr) (H' : Hp) : Prop where
  more : ∃ t, ι' = ι ++ t ∧ ∀ a ∈ t, H a = none
  ext : Ext H H'
  dom : ∀ a, H' a = none → H a = none
  keep : ∀ a u, H a = some u → a ∉ ι → H' a = some u
theorem Le.refl {ι : List Addr} {H : Hp} : Le ι H ι H := ⟨⟨[], by simp, fun _ h => by simp at h⟩, Ext.refl H, fun _ h => h, fun _ _ h _ => h⟩
theorem Le.trans {ι ι1 ι2 : List Addr} {H H1 H2 : Hp} (a : Le ι H ι1 H1) (b : Le ι1 H1 ι2 H2) : Le ι H ι2 H2 := by
  obtain ⟨t, rfl, ft⟩ := a.more
  obtain ⟨u, rfl, fu⟩ := b.more
  refine ⟨⟨t ++ u, by simp, fun c hc => ?_⟩, a.ext.trans b.ext, fun c h => a.dom c (b.dom c h), fun c v e n => b.keep c v (a.keep c v e n) fun hc => ?_⟩
  · rcases List.mem_append.mp hc with hc | hc
    · exact ft c hc
    · exact a.dom c (fu c hc)
  · rcases List.mem_append.mp hc with hc | hc
    · exact n hc
    · rw [ft c hc] at e; cases e
/-- a new object, not ours -/
theorem Le.new {ι : List Addr} {H : Hp} {p : Addr} {o : HO} (h : H p = none) : Le ι H ι (upd H p o) :=
  ⟨⟨[], by simp, fun _ h => by simp at h⟩, Ext.new h, fun a e => by
    by_cases q : a = p
    · rw [q]; exact h
    · rw [upd_ne q] at e; exact e, fun a u e _ => by rw [upd_ne (ne_of_none e h)]; exact e⟩
/-- an object of ours is changed -/
theorem Le.set {ι : List Addr} {H : Hp} {p : Addr} {o : HO} (h : L2.Mut (H p)) (hp : p ∈ ι) : Le ι H ι (upd H p o) :=
  ⟨⟨[], by simp, fun _ h => by simp at h⟩, Ext.mut h, fun a e => by
    by_cases q : a = p
    · rw [q, upd_same] at e; cases e
    · rw [upd_ne q] at e; exact e, fun a u e n => by rw [upd_ne (fun q : a = p => n (by rw [q]; exact hp))]; exact e⟩
theorem Le.at {ι ι' : List Addr} {H H' : Hp} (l : Le ι H ι' H') {n : Nat} {a : Addr} (h : ι[n]? = some a) : ι'[n]? = some a := by
  obtain ⟨t, rfl, _⟩ := l.more
  obtain ⟨hn, _⟩ := List.getElem?_eq_some_iff.mp h
  rw [List.getElem?_append_left hn]; exact h

/-- a list that nobody changes -/
def Fixed (K : PySem.W.Frag) (H : Hp) (a : Addr) (vs : List V) : Prop := (∃ o, H a = some (.frz o (.lst vs))) ∨
  ∃ (o : PySem.Obj) (its : Array Value) (n : Nat), K.lookup a = some o ∧ o.cls = .type "list" ∧ o.dict = none ∧ o.data = .seq its n ∧ its.size ≤ sizeLine ∧ Vals vs its.toList
theorem Fixed.sq {K : PySem.W.Frag} {H : Hp} {a : Addr} {vs : List V} (h : Fixed K H a vs) : SqL K H a vs := by
  rcases h with h | h
  · exact .inl (.inr h)
  · exact .inr h
theorem Ext.fixed {K : PySem.W.Frag} {H H' : Hp} {a : Addr} {vs : List V} (e : Ext H H') (h : Fixed K H a vs) : Fixed K H' a vs := by
  rcases h with ⟨o, h⟩ | h
  · exact .inl ⟨o, e.frzs _ _ _ h⟩
  · exact .inr h
mutual
inductive VR (K : PySem.W.Frag) (ι : List Addr) (H : Hp) : Val → V → Prop
  | non : VR K ι H .non .non
  | bl (b : Bool) : VR K ι H (.bl b) (.bl b)
  | int (i : Int) : VR K ι H (.int i) (.int i)
  | str (s : List Nat) (h : okS s) : VR K ι H (.str s) (.str (toS s))
  | tup {a : Addr} {xs : List Val} {vs : List V} : SqT K H a vs → VRs K ι H xs vs → VR K ι H (.tup xs) (.ref a)
  | frz {a : Addr} {xs : List Val} {vs : List V} : Fixed K H a vs → VRs K ι H xs vs → VR K ι H (.frz xs) (.ref a)
  | ref {n : Nat} {a : Addr} : ι[n]? = some a → VR K ι H (.ref n) (.ref a)
  | fn (x : Str) : VR K ι H (.fn x) (.ref (He.ga K x))
inductive VRs (K : PySem.W.Frag) (ι : List Addr) (H : Hp) : List Val → List V → Prop
  | nil : VRs K ι H [] []
  | cons {x : Val} {v : V} {xs : List Val} {vs : List V} : VR K ι H x v → VRs K ι H xs vs → VRs K ι H (x :: xs) (v :: vs)
end
mutual
theorem VR.mono {K : PySem.W.Frag} {ι ι' : List Addr} {H H' : Hp} (l : Le ι H ι' H') {x : Val} {v : V} : VR K ι H x v → VR K ι' H' x v
  | .non => .non
  | .bl b => .bl b
  | .int i => .int i
  | .str s h => .str s h
  | .tup h hs => .tup (l.ext.sqT h) (VRs.mono l hs)
  | .frz h hs => .frz (l.ext.fixed h) (VRs.mono l hs)
  | .ref h => .ref (l.at h)
  | .fn x => .fn x
theorem VRs.mono {K : PySem.W.Frag} {ι ι' : List Addr} {H H' : Hp} (l : Le ι H ι' H') {xs : List Val} {vs : List V} : VRs K ι H xs vs → VRs K ι' H' xs vs
  | .nil => .nil
  | .cons h hs => .cons (VR.mono l h) (VRs.mono l hs)
end
mutual
theorem VR.ext {K : PySem.W.Frag} {ι : List Addr} {H H' : Hp} (l : Ext H H') {x : Val} {v : V} : VR K ι H x v → VR K ι H' x v
  | .non => .non
  | .bl b => .bl b
  | .int i => .int i
  | .str s h => .str s h
  | .tup h hs => .tup (l.sqT h) (VRs.ext l hs)
  | .frz h hs => .frz (l.fixed h) (VRs.ext l hs)
  | .ref h => .ref h
  | .fn x => .fn x
theorem VRs.ext {K : PySem.W.Frag} {ι : List Addr} {H H' : Hp} (l : Ext H H') {xs : List Val} {vs : List V} : VRs K ι H xs vs → VRs K ι H' xs vs
  | .nil => .nil
  | .cons h hs => .cons (VR.ext l h) (VRs.ext l hs)
end
mutual
theorem VR.more {K : PySem.W.Frag} {ι t : List Addr} {H : Hp} {x : Val} {v : V} : VR K ι H x v → VR K (ι ++ t) H x v
  | .non => .non
  | .bl b => .bl b
  | .int i => .int i
  | .str s h => .str s h
  | .tup h hs => .tup h (VRs.more hs)
  | .frz h hs => .frz h (VRs.more hs)
  | .ref h => .ref (by
      obtain ⟨hn, _⟩ := List.getElem?_eq_some_iff.mp h
      rw [List.getElem?_append_left hn]; exact h)
  | .fn x => .fn x
theorem VRs.more {K : PySem.W.Frag} {ι t : List Addr} {H : Hp} {xs : List Val} {vs : List V} : VRs K ι H xs vs → VRs K (ι ++ t) H xs vs
  | .nil => .nil
  | .cons h hs => .cons (VR.more h) (VRs.more hs)
end
mutual
/-- the same where fewer references are known -/
theorem VR.cut {K : PySem.W.Frag} {ι : List Addr} {H : Hp} {n : Nat} : ∀ {x : Val} {v : V}, VR K ι H x v → below n x = true → VR K (ι.take n) H x v
  | _, _, .non, _ => .non
  | _, _, .bl b, _ => .bl b
  | _, _, .int i, _ => .int i
  | _, _, .str s h, _ => .str s h
  | _, _, .tup h hs, b => .tup h (VRs.cut hs (by simpa [below] using b))
  | _, _, .frz h hs, b => .frz h (VRs.cut hs (by simpa [below] using b))
  | .ref k, _, .ref h, b => .ref (by
      have hb : k < n := by simpa [below] using b
      rw [List.getElem?_take_of_lt hb]; exact h)
  | _, _, .fn x, _ => .fn x
theorem VRs.cut {K : PySem.W.Frag} {ι : List Addr} {H : Hp} {n : Nat} : ∀ {xs : List Val} {vs : List V}, VRs K ι H xs vs → belows n xs = true → VRs K (ι.take n) H xs vs
  | _, _, .nil, _ => .nil
  | x :: xs, _, .cons h hs, b => by
    have hb : below n x = true ∧ belows n xs = true := by simpa [belows] using b
    exact .cons (VR.cut h hb.1) (VRs.cut hs hb.2)
end
section
variable {K : PySem.W.Frag} {ι : List Addr} {H : Hp}
theorem VRs.length {xs : List Val} {vs : List V} (h : VRs K ι H xs vs) : xs.length = vs.length := by
  induction xs generalizing vs with
  | nil => cases h; rfl
  | cons x xs ih => cases h with
    | cons _ t => simp [ih t]
theorem VRs.get {xs : List Val} {vs : List V} (h : VRs K ι H xs vs) {i : Nat} {x : Val} (e : xs[i]? = some x) : ∃ v, vs[i]? = some v ∧ VR K ι H x v := by
  induction xs generalizing vs i with
  | nil => simp at e
  | cons y xs ih => cases h with
    | cons hh t =>
      cases i with
      | zero => simp at e; subst e; exact ⟨_, rfl, hh⟩
      | succ i => exact ih t (i := i) (by simpa using e)
theorem VRs.append {xs ys : List Val} {vs ws : List V} (h : VRs K ι H xs vs) (k : VRs K ι H ys ws) : VRs K ι H (xs ++ ys) (vs ++ ws) := by
  induction xs generalizing vs with
  | nil => cases h; exact k
  | cons y xs ih => cases h with
    | cons hh t => exact .cons hh (ih t)
theorem VRs.take {xs : List Val} {vs : List V} (h : VRs K ι H xs vs) (n : Nat) : VRs K ι H (xs.take n) (vs.take n) := by
  induction xs generalizing vs n with
  | nil => cases h; simp; exact .nil
  | cons y xs ih => cases h with
    | cons hh t =>
      cases n with
      | zero => exact .nil
      | succ n => exact .cons hh (ih t n)
theorem VRs.drop {xs : List Val} {vs : List V} (h : VRs K ι H xs vs) (n : Nat) : VRs K ι H (xs.drop n) (vs.drop n) := by
  induction xs generalizing vs n with
  | nil => cases h; simp; exact .nil
  | cons y xs ih => cases h with
    | cons hh t =>
      cases n with
      | zero => exact .cons hh t
      | succ n => exact ih t n
theorem VRs.set {xs : List Val} {vs : List V} (h : VRs K ι H xs vs) {x : Val} {v : V} (k : VR K ι H x v) (n : Nat) : VRs K ι H (xs.set n x) (vs.set n v) := by
  induction xs generalizing vs n with
  | nil => cases h; exact .nil
  | cons y xs ih => cases h with
    | cons hh t =>
      cases n with
      | zero => exact .cons k t
      | succ n => exact .cons hh (ih t n)
theorem VRs.cutv {xs : List Val} {vs : List V} (h : VRs K ι H xs vs) (lo hi : Option Int) : VRs K ι H (Mi.cut xs lo hi) (L2.cutV vs lo hi) := by
  have e : ∀ d o, bound xs.length d o = HT.sIx vs.length d o := fun d o => by
    rw [h.length]
    cases o <;> rfl
  unfold Mi.cut cutV
  rw [e, e, h.length]
  exact (h.drop _).take _
end

/-- an object of the store at its address -/
def mutO : Obj → Bool
  | .lst _ => true
  | .dic _ => true
  | .dit _ => true
  | _ => false
def keyOf : Val → Option Key
  | .int i => some (.inl i)
  | .str s => some (.inr (toS s))
  | _ => none
/-- an exception object that was not raised yet, its arguments at t -/
def ExA (cls : Value) (t a : Addr) : HO := .ext fun h => ∃ (oe : PySem.Obj) (vs : Array Value), h.get? a = some oe ∧ Zc cls none oe ∧ oe.data = .fields vs ∧ vs[0]? = some (.ref t) ∧ vs[1]? = some .none ∧ vs[2]? = some .none ∧ 4 < vs.size
theorem exA_ok {P : Program} {w : World} {H : Hp} {h : Heap} {a t : Addr} {cls : Value} {oe : PySem.Obj} {vs : Array Value} (e : h.get? a = some oe) (z : Zc cls none oe) (d : oe.data = .fields vs) (h0 : vs[0]? = some (.ref t)) (h1 : vs[1]? = some .none) (h2 : vs[2]? = some .none) (h5 : 4 < vs.size) : ObjOk P w H h a (ExA cls t a) :=
  ⟨⟨oe, vs, e, z, d, h0, h1, h2, h5⟩, ⟨oe, e⟩, fun _ _ ⟨o, v, q, r⟩ k => ⟨o, v, k o q, r⟩⟩
def KVs (K : PySem.W.Frag) (ι : List Addr) (H : Hp) : List (Val × Val) → List (Key × V) → Prop := Paired fun p q => (keyOf p.1 = some q.1 ∧ VR K ι H p.1 (kV q.1)) ∧ VR K ι H p.2 q.2
/-- the parts of a key tuple -/
def KTs (K : PySem.W.Frag) (ι : List Addr) (H : Hp) : List Val → List Key → Prop := Paired fun x k => keyOf x = some k ∧ VR K ι H x (kV k)
def TVs (K : PySem.W.Frag) (ι : List Addr) (H : Hp) : List (List Val × Val) → List (List Key × V) → Prop := Paired fun p q => KTs K ι H p.1 q.1 ∧ VR K ι H p.2 q.2
def OR (G : Gs) (ι : List Addr) (H : Hp) : Obj → Addr → Prop
  | .lst xs, a => ∃ vs, H a = some (.lst vs) ∧ VRs G.K ι H xs vs
  | .dic kvs, a => ∃ ws, H a = some (.dK ws) ∧ KVs G.K ι H kvs ws
  | .dit kvs, a => ∃ ws, H a = some (.dT ws) ∧ TVs G.K ι H kvs ws
  | .exv c, a => ∃ t, H a = some (ExA (.ref (G.cls c)) t a) ∧ H t = some (.tup [])
structure HR (G : Gs) (ι : List Addr) (M : Store) (H : Hp) : Prop where
  len : ι.length = M.length
  obj : ∀ (n : Nat) (o : Obj) (a : Addr), M[n]? = some o → ι[n]? = some a → OR G ι H o a
  inj : ι.Nodup
structure SR (G : Gs) (ι : List Addr) (H : Hp) (τ : St) (σ : L2.St) : Prop where
  len : τ.length = σ.length
  at_ : ∀ (i : Nat) (x : Val), τ[i]? = some (some x) → ∃ v, σ[i]? = some (some v) ∧ VR G.K ι H x v
theorem SR.mono {G : Gs} {ι ι' : List Addr} {H H' : Hp} (l : Le ι H ι' H') {τ : St} {σ : L2.St} (h : SR G ι H τ σ) : SR G ι' H' τ σ :=
  ⟨h.len, fun i x e => let ⟨v, e', r⟩ := h.at_ i x e; ⟨v, e', r.mono l⟩⟩
theorem SR.set {G : Gs} {ι : List Addr} {H : Hp} {τ : St} {σ : L2.St} (h : SR G ι H τ σ) {x : Val} {v : V} (r : VR G.K ι H x v) (i : Nat) : SR G ι H (τ.set i (some x)) (σ.set i (some v)) := by
  refine ⟨by simp [h.len], fun j y e => ?_⟩
  by_cases hj : i = j
  · subst hj
    by_cases hi : i < τ.length
    · rw [List.getElem?_set_self hi] at e
      cases e
      exact ⟨v, by rw [List.getElem?_set_self (by rw [← h.len]; exact hi)], r⟩
    · rw [List.getElem?_eq_none (by simpa using hi)] at e; cases e
  · rw [List.getElem?_set_ne hj] at e
    obtain ⟨w, e', r'⟩ := h.at_ j y e
    exact ⟨w, by rw [List.getElem?_set_ne hj]; exact e', r'⟩
theorem SR.gone {G : Gs} {ι : List Addr} {H : Hp} {τ : St} {σ : L2.St} (h : SR G ι H τ σ) (i : Nat) : SR G ι H (τ.set i none) (σ.set i none) := by
  refine ⟨by simp [h.len], fun j y e => ?_⟩
  by_cases hj : i = j
  · subst hj
    by_cases hi : i < τ.length
    · rw [List.getElem?_set_self hi] at e; cases e
    · rw [List.getElem?_eq_none (by simpa using hi)] at e; cases e
  · rw [List.getElem?_set_ne hj] at e
    obtain ⟨w, e', r'⟩ := h.at_ j y e
    exact ⟨w, by rw [List.getElem?_set_ne hj]; exact e', r'⟩
theorem SR.wiped {G : Gs} {ι : List Addr} {H : Hp} {τ : St} {σ : L2.St} (h : SR G ι H τ σ) : ∀ vs : List Nat, SR G ι H (Mi.wiped τ vs) (L2.wipe σ vs)
  | [] => h
  | v :: vs => (SR.wiped h vs).gone v

theorem KVs.mono {K : PySem.W.Frag} {ι ι' : List Addr} {H H' : Hp} (l : Le ι H ι' H') {ks : List (Val × Val)} {ws : List (Key × V)} (h : KVs K ι H ks ws) : KVs K ι' H' ks ws :=
  L2.Paired.mapP h fun _ _ q => ⟨⟨q.1.1, q.1.2.mono l⟩, q.2.mono l⟩
theorem TVs.mono {K : PySem.W.Frag} {ι ι' : List Addr} {H H' : Hp} (l : Le ι H ι' H') {ks : List (List Val × Val)} {ws : List (List Key × V)} (h : TVs K ι H ks ws) : TVs K ι' H' ks ws :=
  L2.Paired.mapP h fun _ _ q => ⟨L2.Paired.mapP q.1 fun _ _ q => ⟨q.1, q.2.mono l⟩, q.2.mono l⟩
/-- what stays of an object where its own place stays -/
theorem OR.stay {G : Gs} {ι ι' : List Addr} {H H' : Hp} (l : Le ι H ι' H') {o : Obj} {a : Addr} (h : OR G ι H o a) (s : ∀ u, H a = some u → H' a = some u) : OR G ι' H' o a := by
  cases o with
  | lst xs => obtain ⟨vs, e, r⟩ := h; exact ⟨vs, s _ e, r.mono l⟩
  | dic ks => obtain ⟨ws, e, r⟩ := h; exact ⟨ws, s _ e, r.mono l⟩
  | dit ks => obtain ⟨ws, e, r⟩ := h; exact ⟨ws, s _ e, r.mono l⟩
  | exv c => obtain ⟨t, e, r⟩ := h; exact ⟨t, s _ e, l.ext.tups _ _ r⟩
theorem OR.has {G : Gs} {ι : List Addr} {H : Hp} {o : Obj} {a : Addr} (h : OR G ι H o a) : ∃ u, H a = some u := by
  cases o with
  | lst xs => obtain ⟨vs, e, r⟩ := h; exact ⟨_, e⟩
  | dic ks => obtain ⟨ws, e, r⟩ := h; exact ⟨_, e⟩
  | dit ks => obtain ⟨ws, e, r⟩ := h; exact ⟨_, e⟩
  | exv c => obtain ⟨t, e, r⟩ := h; exact ⟨_, e⟩
/-- what is ours isn't free -/
theorem HR.has {G : Gs} {ι : List Addr} {M : Store} {H : Hp} (h : HR G ι M H) {a : Addr} (ha : a ∈ ι) : ∃ u, H a = some u := by
  obtain ⟨n, hn, e⟩ := List.mem_iff_getElem.mp ha
  have e1 : ι[n]? = some a := by rw [List.getElem?_eq_getElem hn, e]
  have hm : n < M.length := by rw [← h.len]; exact hn
  exact (h.obj n M[n] a (List.getElem?_eq_getElem hm) e1).has
theorem HR.ne {G : Gs} {ι : List Addr} {M : Store} {H : Hp} (h : HR G ι M H) {p : Addr} (hp : H p = none) : p ∉ ι := fun z => by
  obtain ⟨u, q⟩ := h.has z
  rw [hp] at q; cases q
/-- a new object, not ours -/
theorem HR.new {G : Gs} {ι : List Addr} {M : Store} {H : Hp} (h : HR G ι M H) {p : Addr} {u : HO} (hp : H p = none) : HR G ι M (upd H p u) :=
  ⟨h.len, fun n o a e1 e2 => (h.obj n o a e1 e2).stay (Le.new hp) (fun v q => by rw [upd_ne (ne_of_none q hp)]; exact q), h.inj⟩
/-- another one's object is changed -/
theorem HR.other {G : Gs} {ι : List Addr} {M : Store} {H : Hp} (h : HR G ι M H) {p : Addr} {u : HO} (hp : L2.Mut (H p)) (np : p ∉ ι) : HR G ι M (upd H p u) := by
  have mono : ∀ {o : Obj} {a : Addr}, a ≠ p → OR G ι H o a → OR G ι (upd H p u) o a := fun {o a} na q => by
    have e : Ext H (upd H p u) := Ext.mut hp
    have l : Le ι H ι (upd H p u) ∨ True := .inr trivial
    have vm : ∀ {x : Val} {v : V}, VR G.K ι H x v → VR G.K ι (upd H p u) x v := fun {x v} r => VR.ext e r
    cases o with
    | lst xs => obtain ⟨vs, e1, r⟩ := q; exact ⟨vs, by rw [upd_ne na]; exact e1, VRs.ext e r⟩
    | dic ks => obtain ⟨ws, e1, r⟩ := q; exact ⟨ws, by rw [upd_ne na]; exact e1, L2.Paired.mapP r fun _ _ q => ⟨⟨q.1.1, vm q.1.2⟩, vm q.2⟩⟩
    | dit ks => obtain ⟨ws, e1, r⟩ := q; exact ⟨ws, by rw [upd_ne na]; exact e1, L2.Paired.mapP r fun _ _ q => ⟨L2.Paired.mapP q.1 fun _ _ q => ⟨q.1, vm q.2⟩, vm q.2⟩⟩
    | exv c => obtain ⟨t, e1, r⟩ := q; exact ⟨t, by rw [upd_ne na]; exact e1, e.tups _ _ r⟩
  exact ⟨h.len, fun n o a e1 e2 => mono (fun z => np (z ▸ List.mem_of_getElem? e2)) (h.obj n o a e1 e2), h.inj⟩
/-- a new object becomes ours -/
theorem HR.mine {G : Gs} {ι : List Addr} {M : Store} {H : Hp} (h : HR G ι M H) {p : Addr} {o : Obj} (np : p ∉ ι) (ho : OR G (ι ++ [p]) H o p) : HR G (ι ++ [p]) (M ++ [o]) H := by
  have key : ∀ (n : Nat) (u : Obj), (M ++ [o])[n]? = some u → (n < M.length ∧ M[n]? = some u ∧ (ι ++ [p])[n]? = ι[n]?) ∨ (n = M.length ∧ u = o ∧ (ι ++ [p])[n]? = some p) := fun n u e => by
    by_cases hn : n < M.length
    · rw [List.getElem?_append_left hn] at e
      exact .inl ⟨hn, e, List.getElem?_append_left (by rw [h.len]; exact hn)⟩
    · obtain ⟨hlt, _⟩ := List.getElem?_eq_some_iff.mp e
      have hn2 : n = M.length := by simp at hlt; omega
      subst hn2
      rw [List.getElem?_append_right (Nat.le_refl _)] at e
      refine .inr ⟨rfl, by simpa using e.symm, ?_⟩
      rw [← h.len]; simp
  refine ⟨by simp [h.len], fun n u a e1 e2 => ?_, ?_⟩
  · rcases key n u e1 with ⟨_, e, k⟩ | ⟨_, e, k⟩
    · rw [k] at e2
      have q := h.obj n u a e e2
      cases u with
      | lst xs => obtain ⟨vs, e3, r⟩ := q; exact ⟨vs, e3, VRs.more r⟩
      | dic ks => obtain ⟨ws, e3, r⟩ := q; exact ⟨ws, e3, L2.Paired.mapP r fun _ _ q => ⟨⟨q.1.1, VR.more q.1.2⟩, VR.more q.2⟩⟩
      | dit ks => obtain ⟨ws, e3, r⟩ := q; exact ⟨ws, e3, L2.Paired.mapP r fun _ _ q => ⟨L2.Paired.mapP q.1 fun _ _ q => ⟨q.1, VR.more q.2⟩, VR.more q.2⟩⟩
      | exv c => exact q
    · rw [k] at e2; cases e2; subst e; exact ho
  · rw [List.nodup_append]
    refine ⟨h.inj, by simp, fun a ha b hb z => ?_⟩
    simp at hb
    exact np (hb ▸ z ▸ ha)
/-- ours is changed -/
theorem HR.set {G : Gs} {ι : List Addr} {M : Store} {H : Hp} (h : HR G ι M H) {n : Nat} {xs ys : List Val} {vs ws : List V} {a : Addr} (e : M[n]? = some (.lst xs)) (ea : ι[n]? = some a) (ha : H a = some (.lst vs)) (r : VRs G.K ι H ys ws) :
    HR G ι (M.set n (.lst ys)) (upd H a (.lst ws)) ∧ Le ι H ι (upd H a (.lst ws)) := by
  have l : Le ι H ι (upd H a (.lst ws)) := Le.set (mut_lst ha) (List.mem_of_getElem? ea)
  have hn : n < M.length := (List.getElem?_eq_some_iff.mp e).1
  refine ⟨⟨by simp [h.len], fun m u b e1 e2 => ?_, h.inj⟩, l⟩
  by_cases hm : n = m
  · subst hm
    rw [List.getElem?_set_self hn] at e1
    cases e1
    rw [ea] at e2; cases e2
    exact ⟨ws, upd_same, r.mono l⟩
  · rw [List.getElem?_set_ne hm] at e1
    refine (h.obj m u b e1 e2).stay l fun v q => ?_
    rw [upd_ne (fun z => hm (by
      obtain ⟨h1, e3⟩ := List.getElem?_eq_some_iff.mp ea
      obtain ⟨h2, e4⟩ := List.getElem?_eq_some_iff.mp e2
      exact (List.getElem_inj h.inj).mp (e3.trans (z.symm.trans e4.symm))))]
    exact q
end Mi
end MiRelS

section MiExpS
set_option Elab.async false
set_option linter.all false
set_option maxRecDepth 100000
/-! what the runs of the small language say of the walked tree: expressions -/
namespace Mi
open PySem L2

/-- an exception of the small language as it lies -/
def XR (G : Gs) (ι : List Addr) (H : Hp) (x : Exc) (cls : Value) (d : Option Addr) : Prop := cls = .ref (G.cls x.cls) ∧
  match x.arg with
  | none => d = none
  | some v => ∃ dx f w, d = some dx ∧ H dx = some (.xd [(f, w)]) ∧ VR G.K ι H v w
def Post {α β : Type} (G : Gs) (W : WX) (σ : L2.St) (ι : List Addr) (H : Hp) (R : List Addr → Hp → α → β → Prop) (Q : β → Hp → Prop) : Res α → Prop
  | .ok a M => ∀ ι' H' b, Le ι H ι' H' → HR G ι' M H' → R ι' H' a b → Q b H'
  | .exc x M => ∀ ι' H' cls d, Le ι H ι' H' → HR G ι' M H' → XR G ι' H' x cls d → W cls d σ H'
  | .bad => False
section
variable {G : Gs} {W : WX} {σ : L2.St} {ι : List Addr} {H : Hp} {M : Store}
theorem Post.mono {α β : Type} {R : List Addr → Hp → α → β → Prop} {Q : β → Hp → Prop} {r : Res α} {ι1 : List Addr} {H1 : Hp} (h : Post G W σ ι H R Q r) (l : Le ι H ι1 H1) : Post G W σ ι1 H1 R Q r := by
  cases r with
  | ok a M => exact fun ι' H' b l' => h ι' H' b (l.trans l')
  | exc x M => exact fun ι' H' c d l' => h ι' H' c d (l.trans l')
  | bad => exact h
theorem Post.bind {α β γ δ : Type} {R : List Addr → Hp → α → β → Prop} {Q : β → Hp → Prop} {R' : List Addr → Hp → γ → δ → Prop} {Q' : δ → Hp → Prop} {r : Res α} {f : α → Store → Res γ} (h : Post G W σ ι H R' Q' (r.bind f))
    (k : ∀ a M1 ι1 H1 b, r = .ok a M1 → Le ι H ι1 H1 → HR G ι1 M1 H1 → R ι1 H1 a b → Post G W σ ι1 H1 R' Q' (f a M1) → Q b H1) : Post G W σ ι H R Q r := by
  cases r with
  | ok a M => exact fun ι' H' b l hr rr => k a M ι' H' b rfl l hr rr (Post.mono h l)
  | exc x M => exact h
  | bad => exact h
theorem Post.imp {α β : Type} {R : List Addr → Hp → α → β → Prop} {Q Q' : β → Hp → Prop} {r : Res α} (h : Post G W σ ι H R Q r) (k : ∀ b H', Q b H' → Q' b H') : Post G W σ ι H R Q' r := by
  cases r with
  | ok a M => exact fun ι' H' b l hr rr => k _ _ (h ι' H' b l hr rr)
  | exc x M => exact h
  | bad => exact h
/-- the end of a run, here and now -/
theorem Post.here {α β : Type} {R : List Addr → Hp → α → β → Prop} {Q : β → Hp → Prop} {a : α} {b : β} (h : Post G W σ ι H R Q (.ok a M)) (hr : HR G ι M H) (r : R ι H a b) : Q b H := h ι H b Le.refl hr r
theorem Post.opt {α β : Type} {R : List Addr → Hp → α → β → Prop} {Q : β → Hp → Prop} {o : Option α} (h : Post G W σ ι H R Q (ofOpt o M)) : ∃ a, o = some a ∧ Post G W σ ι H R Q (.ok a M) := by
  cases o with
  | none => exact h.elim
  | some a => exact ⟨a, rfl, h⟩
end
abbrev RV (G : Gs) : List Addr → Hp → Val → V → Prop := fun ι H x v => VR G.K ι H x v
abbrev RVs (G : Gs) : List Addr → Hp → List Val → List V → Prop := fun ι H x v => VRs G.K ι H x v
abbrev RI {α : Type} : List Addr → Hp → α → α → Prop := fun _ _ a b => b = a

/-! ### readings -/
def tE (G : Gs) (W : WX) (cf : Cf) (m : E) : TE := fun σ H Q => ∃ ι τ M, SR G ι H τ σ ∧ HR G ι M H ∧ Post G W σ ι H (RV G) Q (ev cf m τ M)
def tT (G : Gs) (W : WX) (cf : Cf) (m : E) : TT := fun σ H Q => ∃ ι τ M, SR G ι H τ σ ∧ HR G ι M H ∧ Post G W σ ι H RI Q ((ev cf m τ M).bind fun x M1 => ofOpt (truth M1 x) M1)
def tEs (G : Gs) (W : WX) (cf : Cf) (ms : Es) : TA := fun σ H Q => ∃ ι τ M, SR G ι H τ σ ∧ HR G ι M H ∧ Post G W σ ι H (RVs G) Q (evs cf ms τ M)
def tEo (G : Gs) (W : WX) (cf : Cf) (m : Eo) : TO := fun σ H Q => ∃ ι τ M, SR G ι H τ σ ∧ HR G ι M H ∧ Post G W σ ι H RI Q (evo cf m τ M)
/-- a list that was just made: nobody else knows it -/
def Fresh (G : Gs) (H0 : Hp) (ι : List Addr) (H : Hp) (xs : List Val) (v : V) : Prop := ∃ D vs, v = .ref D ∧ H D = some (.lst vs) ∧ VRs G.K ι H xs vs ∧ D ∉ ι ∧ H0 D = none
def PostL (G : Gs) (W : WX) (σ : L2.St) (ι : List Addr) (H : Hp) (Q : VK) : Res (List Val) → Prop
  | .ok xs M => ∀ ι' H' v, Le ι H ι' H' → HR G ι' M H' → Fresh G H ι' H' xs v → Q v H'
  | .exc x M => ∀ ι' H' cls d, Le ι H ι' H' → HR G ι' M H' → XR G ι' H' x cls d → W cls d σ H'
  | .bad => False
def tL (G : Gs) (W : WX) (cf : Cf) (l : L) : TE := fun σ H Q => ∃ ι τ M, SR G ι H τ σ ∧ HR G ι M H ∧ PostL G W σ ι H Q (evL cf l τ M)
section
variable {G : Gs} {W : WX} {σ : L2.St} {ι : List Addr} {H : Hp} {M : Store}
theorem PostL.mono {Q : VK} {r : Res (List Val)} {ι1 : List Addr} {H1 : Hp} (h : PostL G W σ ι H Q r) (l : Le ι H ι1 H1) : PostL G W σ ι1 H1 Q r := by
  cases r with
  | ok a M => exact fun ι' H' b l' hr ⟨D, vs, e, hD, r, n, z⟩ => h ι' H' b (l.trans l') hr ⟨D, vs, e, hD, r, n, l.dom D z⟩
  | exc x M => exact fun ι' H' c d l' => h ι' H' c d (l.trans l')
  | bad => exact h
/-- a fresh list is wanted for the sake of f -/
theorem PostL.bind {γ δ : Type} {Q : VK} {R' : List Addr → Hp → γ → δ → Prop} {Q' : δ → Hp → Prop} {r : Res (List Val)} {f : List Val → Store → Res γ} (h : Post G W σ ι H R' Q' (r.bind f))
    (k : ∀ xs M1 ι1 H1 v, r = .ok xs M1 → Le ι H ι1 H1 → HR G ι1 M1 H1 → Fresh G H ι1 H1 xs v → Post G W σ ι1 H1 R' Q' (f xs M1) → Q v H1) : PostL G W σ ι H Q r := by
  cases r with
  | ok a M => exact fun ι' H' b l hr rr => k a M ι' H' b rfl l hr rr (Post.mono h l)
  | exc x M => exact h
  | bad => exact h
/-- a fresh list is what comes -/
theorem Post.bindL {α β : Type} {R : List Addr → Hp → α → β → Prop} {Q : β → Hp → Prop} {Q' : VK} {r : Res α} {f : α → Store → Res (List Val)} (h : PostL G W σ ι H Q' (r.bind f))
    (k : ∀ a M1 ι1 H1 b, r = .ok a M1 → Le ι H ι1 H1 → HR G ι1 M1 H1 → R ι1 H1 a b → PostL G W σ ι1 H1 Q' (f a M1) → Q b H1) : Post G W σ ι H R Q r := by
  cases r with
  | ok a M => exact fun ι' H' b l hr rr => k a M ι' H' b rfl l hr rr (PostL.mono h l)
  | exc x M => exact h
  | bad => exact h
/-- the list that was made last -/
theorem PostL.make {Q : VK} {xs : List Val} {vs : List V} (h : PostL G W σ ι H Q (.ok xs M)) (hr : HR G ι M H) (r : VRs G.K ι H xs vs) {D : Addr} (hD : H D = none) : Q (.ref D) (upd H D (.lst vs)) := by
  have l : Le ι H ι (upd H D (.lst vs)) := Le.new hD
  exact h ι _ _ l (hr.new hD) ⟨D, vs, rfl, upd_same, r.mono l, hr.ne hD, hD⟩
end
theorem _root_.L2.PE.imp {X : Cx} {e : Expr} {t t' : TE} (h : PE X e t) (i : ∀ σ H Q, t' σ H Q → t σ H Q) : PE X e t' := ⟨fun ps s σ H Q J q => h.run ps s σ H Q J (i σ H Q q)⟩
theorem _root_.L2.PT.imp {X : Cx} {e : Expr} {t t' : TT} (h : PT X e t) (i : ∀ σ H Q, t' σ H Q → t σ H Q) : PT X e t' := ⟨fun ps s σ H Q J q => h.run ps s σ H Q J (i σ H Q q)⟩
theorem _root_.L2.PA.imp {X : Cx} {e : List Expr} {t t' : TA} (h : PA X e t) (i : ∀ σ H Q, t' σ H Q → t σ H Q) : PA X e t' := ⟨fun po ps s σ H Q J q => h.run po ps s σ H Q J (i σ H Q q)⟩
theorem _root_.L2.PSs.imp {X : Cx} {e : List Stmt} {t t' : TS} (h : PSs X e t) (i : ∀ D σ H, t' D σ H → t D σ H) : PSs X e t' := ⟨fun ps s σ H D J q => h.run ps s σ H D J (i D σ H q)⟩
theorem _root_.L2.PS.imp {X : Cx} {e : Stmt} {t t' : TS} (h : PS X e t) (i : ∀ D σ H, t' D σ H → t D σ H) : PS X e t' := ⟨fun ps s σ H D J q => h.run ps s σ H D J (i D σ H q)⟩

theorem HR.sq_at {G : Gs} {ι : List Addr} {M : Store} {H : Hp} (hr : HR G ι M H) {n : Nat} {a : Addr} {xs : List Val} (e : M[n]? = some (.lst xs)) (ea : ι[n]? = some a) : ∃ vs, SqL G.K H a vs ∧ VRs G.K ι H xs vs := by
  obtain ⟨vs, h1, h2⟩ := hr.obj n _ a e ea
  exact ⟨vs, SqL.of h1, h2⟩
theorem HR.list_at {G : Gs} {ι : List Addr} {M : Store} {H : Hp} (hr : HR G ι M H) {n : Nat} {a : Addr} {xs : List Val} (e : M[n]? = some (.lst xs)) (ea : ι[n]? = some a) : ∃ vs, H a = some (.lst vs) ∧ VRs G.K ι H xs vs := hr.obj n _ a e ea
/-! ### operations on values -/
section
variable {X : Cx} {G : Gs} {W : WX} {cf : Cf}
def opr : Op2 → Operator
  | .add => .Add | .sub => .Sub | .mul => .Mult | .fdiv => .FloorDiv | .mod => .Mod | .pow => .Pow
theorem toS_append (a b : List Nat) : toS a ++ toS b = toS (a ++ b) := by
  show Str.mk (a.toArray ++ b.toArray) = Str.mk (a ++ b).toArray
  simp
theorem okS_append {a b : List Nat} (ha : okS a) (hb : okS b) (h : a.length + b.length ≤ LIM) : okS (a ++ b) :=
  ⟨by rw [List.length_append]; exact h, fun c hc => (List.mem_append.mp hc).elim (ha.2 c) (hb.2 c)⟩
theorem small_bounds {i : Int} (h : small i = true) : -(2 ^ 64) < i ∧ i < 2 ^ 64 := by
  have h' : i.natAbs < 2 ^ 64 := by simpa [small] using h
  omega
theorem mid_log {i : Int} (h : mid i = true) : i.natAbs.log2 < 2000 := by
  have h' : i.natAbs < 2 ^ 2000 := by simpa [mid] using h
  exact PySem.Flt.log2_lt_of (by decide) h'
/-- a new tuple -/
theorem vr_tup_new {ι : List Addr} {H : Hp} {xs : List Val} {vs : List V} {p : Addr} (hp : H p = none) (r : VRs G.K ι H xs vs) : VR G.K ι (upd H p (.tup vs)) (.tup xs) (.ref p) :=
  .tup (SqT.of upd_same) (r.mono (Le.new hp))
theorem flat_rep (x : List Nat) : ∀ n : Nat, ((List.replicate n x.toArray).foldl (· ++ ·) #[] : Array Nat) = ((List.replicate n x).flatten).toArray := by
  have k : ∀ (n : Nat) (acc : List Nat), ((List.replicate n x.toArray).foldl (· ++ ·) acc.toArray : Array Nat) = (acc ++ (List.replicate n x).flatten).toArray := by
    intro n
    induction n with
    | zero => intro acc; simp
    | succ n ih =>
      intro acc
      rw [List.replicate_succ, List.foldl_cons, List.replicate_succ, List.flatten_cons]
      have e : (acc.toArray ++ x.toArray : Array Nat) = (acc ++ x).toArray := by simp
      rw [e, ih, List.append_assoc]
  intro n
  have := k n []
  simpa using this
theorem op_mulS : OpR X (binaryOp .Mult) (fun x y H Q => ∃ (z : List Nat) (j : Int), x = .str (toS z) ∧ y = .int j ∧ 1 ≤ j ∧ j ≤ 1000000 ∧ z.length * j.toNat ≤ sizeLine ∧ Q (.str (toS (List.replicate j.toNat z).flatten)) H) := by
  intro pins s σ H x y v u Q I rx ry h
  obtain ⟨z, j, rfl, rfl, h1, h2, h3, q⟩ := h
  obtain ⟨t, rfl⟩ := rx
  obtain ⟨t2, rfl⟩ := ry
  refine P.mul_str (by
    have a : ¬ j < -(2 ^ 63 : Int) := by omega
    have b : ¬ j ≥ 2 ^ 63 := by omega
    rw [decide_eq_false a, decide_eq_false b]; rfl) (fun _ _ => ?_) (fun _ _ => ?_) ?_
  · rw [toS_length]
    have hz : (z.length : Int) ≤ 16777216 := by
      have e : z.length * 1 ≤ z.length * j.toNat := Nat.mul_le_mul_left _ (by omega)
      rw [sizeLine_eq] at h3
      omega
    have hd : (16777216 : Int) ≤ (2 ^ 63 - 1) / j := by
      refine (Int.le_ediv_iff_mul_le (by omega)).mpr ?_
      have : (16777216 : Int) * j ≤ 16777216 * 1000000 := Int.mul_le_mul_of_nonneg_left h2 (by omega)
      omega
    omega
  · rw [toS_length]
    unfold Builtin.Str.tooLong
    exact decide_eq_false (by omega)
  · rw [if_neg (by omega)]
    split
    · rename_i c
      have e : toS (List.replicate j.toNat z).flatten = toS z := by
        rw [toS_length] at c
        by_cases c1 : j = 1
        · subst c1; simp
        · have c2 : z = [] := by
            have : z.length = 0 := by simpa [c1] using c
            exact List.length_eq_zero_iff.mp this
          subst c2; simp
      rw [e] at q
      exact ⟨.str (toS z), H, I, ⟨_, rfl⟩, q⟩
    · have e : (⟨(List.replicate j.toNat (toS z).cps).foldl (· ++ ·) #[]⟩ : Str) = toS (List.replicate j.toNat z).flatten := congrArg Str.mk (flat_rep z j.toNat)
      rw [e]
      refine ⟨?_, .str _, H, I.tok _, ⟨_, rfl⟩, q⟩
      rw [toS_length, List.length_flatten]
      simp only [List.map_replicate, List.sum_replicate_nat]
      rw [Nat.mul_comm]
      exact h3
/-- a new list becomes ours -/
theorem lay_post0 {σ : L2.St} {ι : List Addr} {H : Hp} {M : Store} {Q : VK} {xs : List Val} {vs : List V} (q : Post G W σ ι H (RV G) Q (.ok (.ref M.length) (M ++ [.lst xs]))) (hr : HR G ι M H) (r : VRs G.K ι H xs vs) {p : Addr} (hp : H p = none) : Q (.ref p) (upd H p (.lst vs)) := by
  have np : p ∉ ι := hr.ne hp
  have l : Le ι H (ι ++ [p]) (upd H p (.lst vs)) := by
    obtain ⟨l1, l2, l3, l4⟩ := (Le.new hp : Le ι H ι (upd H p (.lst vs)))
    exact ⟨⟨[p], rfl, fun a ha => by simp at ha; rw [ha]; exact hp⟩, l2, l3, l4⟩
  refine q (ι ++ [p]) _ (.ref p) l ((hr.new hp).mine np ⟨vs, upd_same, (r.mono (Le.new hp)).more⟩) (.ref ?_)
  rw [← hr.len]; simp
def rOp2 (G : Gs) (W : WX) (o : Op2) : R2 := fun x y H Q => ∃ σ ι M a b, HR G ι M H ∧ VR G.K ι H a x ∧ VR G.K ι H b y ∧ Post G W σ ι H (RV G) Q (op2 o a b M)
theorem op2_run (gk : G.K = X.K) (o : Op2) : OpR X (binaryOp (opr o)) (rOp2 G W o) := by
  obtain ⟨K, cl⟩ := G
  obtain rfl : K = X.K := gk
  rintro ps s σ' H x y v u Q I rx ry ⟨σ, ι, M, a, b, hr, ha, hb, h⟩
  unfold op2 at h
  split at h
  · cases ha; cases hb
    exact op_add ps s σ' H _ _ v u Q I rx ry ⟨_, _, rfl, rfl, h.here hr (.int _)⟩
  · cases ha; cases hb
    exact op_sub ps s σ' H _ _ v u Q I rx ry ⟨_, _, rfl, rfl, h.here hr (.int _)⟩
  · cases ha; cases hb
    split at h
    · rename_i i j c
      unfold mulOk at c
      by_cases c1 : small i = true
      · exact op_mul ps s σ' H _ _ v u Q I rx ry ⟨_, _, rfl, rfl, .inl (small_bounds c1), h.here hr (.int _)⟩
      · by_cases c2 : small j = true
        · exact op_mul ps s σ' H _ _ v u Q I rx ry ⟨_, _, rfl, rfl, .inr (small_bounds c2), h.here hr (.int _)⟩
        · have c3 : mid i = true ∧ mid j = true := by simpa [c1, c2] using c
          refine op_mulW ps s σ' H _ _ v u Q I rx ry ⟨_, _, rfl, rfl, ?_, h.here hr (.int _)⟩
          have := mid_log c3.1
          have := mid_log c3.2
          unfold CMulW
          omega
    · exact h.elim
  · cases ha; cases hb
    split at h
    · rename_i i j c
      have c3 : 0 < j ∧ mid j = true := by simpa using c
      exact op_fdivW ps s σ' H _ _ v u Q I rx ry ⟨_, _, rfl, rfl, ⟨c3.1, by have := mid_log c3.2; omega⟩, h.here hr (.int _)⟩
    · exact h.elim
  · cases ha; cases hb
    split at h
    · rename_i i j c
      exact op_mod ps s σ' H _ _ v u Q I rx ry ⟨_, _, rfl, rfl, by simpa using c, h.here hr (.int _)⟩
    · exact h.elim
  · cases ha; cases hb
    split at h
    · rename_i i j c
      have c3 : (0 ≤ j ∧ j ≤ 1000000) ∧ small i = true := by simpa using c
      have c4 : i.natAbs < 2 ^ 64 := by simpa [small] using c3.2
      exact op_pow ps s σ' H _ _ v u Q I rx ry ⟨_, _, rfl, rfl, ⟨c3.1.1, c3.1.2, c4⟩, h.here hr (.int _)⟩
    · exact h.elim
  · cases ha with
    | str x hx => cases hb with
      | str y hy =>
        split at h
        · rename_i c
          refine op_add_str ps s σ' H _ _ v u Q I rx ry ⟨_, _, rfl, rfl, by rw [toS_length, toS_length, ← lim_eq]; exact c, ?_⟩
          rw [toS_append]
          exact h.here hr (.str _ (okS_append hx hy c))
        · exact h.elim
  · cases ha with
    | tup hx rx' => cases hb with
      | tup hy ry' =>
        split at h
        · rename_i x y c
          refine op_catA ps s σ' H _ _ v u Q I rx ry ⟨_, _, _, _, rfl, rfl, hx, hy, by rw [← rx'.length, ← ry'.length, ← lim_eq]; exact c, fun e => ?_, fun _ e => ?_, fun _ _ p hp => ?_⟩
          · subst e
            cases rx'
            exact h.here hr (.tup hy (by simpa using ry'))
          · subst e
            cases ry'
            exact h.here hr (.tup hx (by simpa using rx'))
          · exact h ι _ _ (Le.new hp) (hr.new hp) (vr_tup_new hp (rx'.append ry'))
        · exact h.elim
  · cases ha with
    | @ref m1 a1 ha1 => cases hb with
      | @ref m2 a2 ha2 =>
        split at h
        · rename_i e1 e2
          obtain ⟨vs1, h1, r1⟩ := hr.list_at e1 ha1
          obtain ⟨vs2, h2, r2⟩ := hr.list_at e2 ha2
          split at h
          · rename_i c
            refine op_cat ps s σ' H _ _ v u Q I rx ry ⟨_, _, vs1, vs2, rfl, rfl, h1, h2, by rw [← r1.length, ← r2.length, ← lim_eq]; exact c, fun p hp => ?_⟩
            exact lay_post0 h hr (r1.append r2) hp
          · exact h.elim
        · exact h.elim
  · cases ha with
    | str x hx =>
      cases hb
      split at h
      · rename_i z j c
        have c3 : (1 ≤ j ∧ j ≤ 1000000) ∧ z.length * j.toNat ≤ LIM := by simpa using c
        refine op_mulS ps s σ' H _ _ v u Q I rx ry ⟨_, _, rfl, rfl, c3.1.1, c3.1.2, by rw [← lim_eq]; exact c3.2, ?_⟩
        refine h.here hr (.str _ ⟨?_, fun k hk => ?_⟩)
        · rw [List.length_flatten]
          simp only [List.map_replicate, List.sum_replicate_nat]
          rw [Nat.mul_comm]
          exact c3.2
        · obtain ⟨l, hl, hk⟩ := List.mem_flatten.mp hk
          rw [(List.mem_replicate.mp hl).2] at hk
          exact hx.2 k hk
      · exact h.elim
  · exact h.elim

/-! ### comparisons -/
mutual
def pd : Val → PyData
  | .non => .none
  | .bl b => .bool b
  | .int i => .int i
  | .str s => .str (toS s)
  | .tup xs => .tuple (pds xs)
  | .frz _ => .none
  | .ref _ => .none
  | .fn _ => .none
def pds : List Val → List PyData
  | [] => []
  | x :: xs => pd x :: pds xs
end
mutual
theorem eqv_pd : ∀ a b : Val, noRef a = true → noRef b = true → PyData.eqv (pd a) (pd b) = eqV a b
  | .non, b, _, hb => by cases b <;> simp_all [pd, PyData.eqv, eqV, noRef]
  | .bl _, b, _, hb => by cases b <;> simp_all [pd, PyData.eqv, eqV, noRef]
  | .int _, b, _, hb => by cases b <;> simp_all [pd, PyData.eqv, eqV, noRef]
  | .str x, b, _, hb => by
    cases b with
    | str y =>
      simp only [pd, PyData.eqv, eqV]
      by_cases h : x = y
      · subst h; simp
      · have h2 : ¬ toS x = toS y := fun e => h (toS_inj e)
        rw [beq_eq_false_iff_ne.mpr h2, beq_eq_false_iff_ne.mpr h]
    | _ => simp_all [pd, PyData.eqv, eqV, noRef]
  | .tup xs, b, ha, hb => by
    cases b with
    | tup ys =>
      simp only [pd, PyData.eqv, eqV]
      exact eqv_pds xs ys (by simpa [noRef] using ha) (by simpa [noRef] using hb)
    | _ => simp_all [pd, PyData.eqv, eqV, noRef]
  | .ref _, _, ha, _ => by simp [noRef] at ha
  | .frz _, _, ha, _ => by simp [noRef] at ha
  | .fn _, _, ha, _ => by simp [noRef] at ha
theorem eqv_pds : ∀ xs ys : List Val, noRefs xs = true → noRefs ys = true → PyData.eqvAll (pds xs) (pds ys) = eqVs xs ys
  | [], [], _, _ => by simp [pds, PyData.eqvAll, eqVs]
  | [], _ :: _, _, _ => by simp [pds, PyData.eqvAll, eqVs]
  | _ :: _, [], _, _ => by simp [pds, PyData.eqvAll, eqVs]
  | x :: xs, y :: ys, ha, hb => by
    have ha' : noRef x = true ∧ noRefs xs = true := by simpa [noRefs] using ha
    have hb' : noRef y = true ∧ noRefs ys = true := by simpa [noRefs] using hb
    simp only [pds, PyData.eqvAll, eqVs]
    rw [eqv_pd x y ha'.1 hb'.1, eqv_pds xs ys ha'.2 hb'.2]
end
mutual
theorem pd_depth : ∀ a : Val, (pd a).depth = depth a
  | .non => by simp [pd, PyData.depth, depth]
  | .bl _ => by simp [pd, PyData.depth, depth]
  | .int _ => by simp [pd, PyData.depth, depth]
  | .str _ => by simp [pd, PyData.depth, depth]
  | .tup xs => by simp only [pd, PyData.depth, depth]; rw [pds_depth xs]
  | .ref _ => by simp [pd, PyData.depth, depth]
  | .frz _ => by simp [pd, PyData.depth, depth]
  | .fn _ => by simp [pd, PyData.depth, depth]
theorem pds_depth : ∀ xs : List Val, PyData.depthAll (pds xs) = depths xs
  | [] => by simp [pds, PyData.depthAll, depths]
  | x :: xs => by simp only [pds, PyData.depthAll, depths]; rw [pd_depth x, pds_depth xs]
end
theorem strOk_of {s : List Nat} (h : okS s) : PyData.strOk (toS s) = true := by
  unfold PyData.strOk toS
  rw [List.all_toArray, List.all_eq_true]
  intro c hc
  have := h.2 c hc
  simp; omega
mutual
theorem VR.dp {K : PySem.W.Frag} {ι : List Addr} {H : Hp} : ∀ {x : Val} {v : V}, VR K ι H x v → noRef x = true → Dp K H v (pd x) ∧ (pd x).canLay0 = true
  | _, _, .non, _ => ⟨by simp only [pd]; exact .non, by simp [pd, PyData.canLay0]⟩
  | _, _, .bl b, _ => ⟨by simp only [pd]; exact .bl b, by simp [pd, PyData.canLay0]⟩
  | _, _, .int i, _ => ⟨by simp only [pd]; exact .int i, by simp [pd, PyData.canLay0]⟩
  | _, _, .str s h, _ => ⟨by simp only [pd]; exact .str _, by simp only [pd, PyData.canLay0]; exact strOk_of h⟩
  | .tup xs, _, .tup h hs, n => by
    have q := VRs.dp hs (by simpa [noRef] using n)
    exact ⟨by simp only [pd]; exact .tup h q.1, by simp only [pd, PyData.canLay0]; exact q.2⟩
  | .ref k, _, .ref h, n => by simp [noRef] at n
  | .frz k, _, .frz h _, n => by simp [noRef] at n
  | .fn x, _, .fn _, n => by simp [noRef] at n
theorem VRs.dp {K : PySem.W.Frag} {ι : List Addr} {H : Hp} : ∀ {xs : List Val} {vs : List V}, VRs K ι H xs vs → noRefs xs = true → DpAll K H vs (pds xs) ∧ PyData.canLayAll0 (pds xs) = true
  | _, _, .nil, _ => ⟨by simp only [pds]; exact .nil, by simp [pds, PyData.canLayAll0]⟩
  | x :: xs, _, .cons h hs, n => by
    have n' : noRef x = true ∧ noRefs xs = true := by simpa [noRefs] using n
    have a := VR.dp h n'.1
    have b := VRs.dp hs n'.2
    exact ⟨by simp only [pds]; exact .cons a.1 b.1, by simp only [pds, PyData.canLayAll0, a.2, b.2, Bool.and_self]⟩
end
theorem VR.shaped {K : PySem.W.Frag} {ι : List Addr} {H : Hp} {x : Val} {v : V} (h : VR K ι H x v) (n : noRef x = true) (d : depth x ≤ 60) : SeqAt.shaped (pd x) = true := by
  unfold SeqAt.shaped
  rw [(h.dp n).2, pd_depth, Bool.true_and]
  exact decide_eq_true (by omega)
theorem shaped_list {xs : List Val} (h : PyData.canLayAll0 (pds xs) = true) (d : depths xs ≤ 59) : SeqAt.shaped (.list (pds xs)) = true := by
  have hd : (PyData.list (pds xs)).depth ≤ 64 := by
    simp only [PyData.depth]
    rw [pds_depth]
    omega
  have hc : (PyData.list (pds xs)).canLay0 = true := by
    simp only [PyData.canLay0]
    exact h
  unfold SeqAt.shaped
  rw [hc, Bool.true_and]
  exact decide_eq_true hd
theorem flat_ok {K : PySem.W.Frag} {ι : List Addr} {H : Hp} {x : Val} {v : V} (r : VR K ι H x v) (h : flatB x = true) : flatV v = true := by
  cases r <;> first | rfl | cases h
theorem flat_eq {K : PySem.W.Frag} {ι : List Addr} {H : Hp} {x y : Val} {v w : V} (rx : VR K ι H x v) (ry : VR K ι H y w) (hx : flatB x = true) (hy : flatB y = true) : L2.eqV w v = Mi.eqV y x := by
  cases rx <;> first | cases hx | skip
  all_goals (cases ry <;> first | cases hy | skip)
  all_goals first | rfl | (simp only [L2.eqV, Mi.eqV]) | (simp [L2.eqV, Mi.eqV])
  rename_i a _ b _
  by_cases e : b = a
  · subst e; simp
  · rw [beq_eq_false_iff_ne.mpr e, beq_eq_false_iff_ne.mpr fun z => e (toS_inj z)]
theorem flats_ok {K : PySem.W.Frag} {ι : List Addr} {H : Hp} {x : Val} {v : V} (rx : VR K ι H x v) (hx : flatB x = true) : ∀ {ys : List Val} {ws : List V}, VRs K ι H ys ws → ys.all flatB = true → ws.all flatV = true ∧ inV v ws = ys.any fun y => Mi.eqV y x
  | [], _, .nil, _ => ⟨rfl, rfl⟩
  | y :: ys, _, .cons h t, k => by
    rw [List.all_cons, Bool.and_eq_true] at k
    obtain ⟨h1, h2⟩ := flats_ok rx hx t k.2
    refine ⟨by rw [List.all_cons, flat_ok h k.1, h1]; rfl, ?_⟩
    unfold inV at h2 ⊢
    rw [List.any_cons, List.any_cons, h2, flat_eq rx h hx k.1]
mutual
theorem alike_pd : ∀ x y : Val, noRef x = true → noRef y = true → PySem.W.alike (pd x) (pd y) = alk x y
  | .non, y, _, hy => by cases y <;> simp_all [pd, PySem.W.alike, alk, noRef]
  | .bl _, y, _, hy => by cases y <;> simp_all [pd, PySem.W.alike, alk, noRef]
  | .int _, y, _, hy => by cases y <;> simp_all [pd, PySem.W.alike, alk, noRef]
  | .str _, y, _, hy => by cases y <;> simp_all [pd, PySem.W.alike, alk, noRef]
  | .tup xs, y, hx, hy => by
    cases y with
    | tup ys =>
      simp only [pd, PySem.W.alike, alk]
      exact alikes_pd xs ys (by simpa [noRef] using hx) (by simpa [noRef] using hy)
    | _ => simp_all [pd, PySem.W.alike, alk, noRef]
  | .ref _, _, hx, _ => by simp [noRef] at hx
  | .frz _, _, hx, _ => by simp [noRef] at hx
  | .fn _, _, hx, _ => by simp [noRef] at hx
theorem alikes_pd : ∀ xs ys : List Val, noRefs xs = true → noRefs ys = true → PySem.W.alikeAll (pds xs) (pds ys) = alks xs ys
  | [], ys, _, _ => by simp [pds, PySem.W.alikeAll, alks]
  | _ :: _, [], _, _ => by simp [pds, PySem.W.alikeAll, alks]
  | x :: xs, y :: ys, hx, hy => by
    have hx' : noRef x = true ∧ noRefs xs = true := by simpa [noRefs] using hx
    have hy' : noRef y = true ∧ noRefs ys = true := by simpa [noRefs] using hy
    simp only [pds, PySem.W.alikeAll, alks]
    rw [alike_pd x y hx'.1 hy'.1, alikes_pd xs ys hx'.2 hy'.2]
end
mutual
theorem lt_pd : ∀ x y : Val, noRef x = true → noRef y = true → alk x y = true → PySem.W.dataLt (pd x) (pd y) = ltV x y
  | .non, y, _, _, h => by
    cases y with
    | non => simp only [pd, ltV]; exact PyProof.Rows.lex_irrefl _
    | _ => cases h
  | .bl a, y, _, _, h => by
    cases y with
    | bl b =>
      simp only [pd, ltV, PySem.W.dataLt_bool]
      cases a <;> cases b <;> rfl
    | _ => cases h
  | .int i, y, _, _, h => by
    cases y with
    | int j => simp only [pd, ltV, PySem.W.dataLt_int]
    | _ => cases h
  | .str a, y, _, _, h => by
    cases y with
    | str b => simp only [pd, ltV, PySem.W.dataLt_str, toS_list]
    | _ => cases h
  | .tup xs, y, hx, hy, h => by
    cases y with
    | tup ys =>
      simp only [pd, ltV, PySem.W.dataLt_tuple]
      exact lts_pd xs ys (by simpa [noRef] using hx) (by simpa [noRef] using hy) h
    | _ => cases h
  | .ref _, _, hx, _, _ => by simp [noRef] at hx
  | .frz _, _, hx, _, _ => by simp [noRef] at hx
  | .fn _, _, hx, _, _ => by simp [noRef] at hx
theorem lts_pd : ∀ xs ys : List Val, noRefs xs = true → noRefs ys = true → alks xs ys = true → PyProof.Rows.lexLt PyProof.Rows.itemOrd (PySem.W.keyToksAll (pds xs)) (PySem.W.keyToksAll (pds ys)) = ltVs xs ys
  | [], [], _, _, _ => rfl
  | [], _ :: _, _, _, _ => rfl
  | _ :: _, [], _, _, _ => rfl
  | x :: xs, y :: ys, hx, hy, h => by
    have hx' : noRef x = true ∧ noRefs xs = true := by simpa [noRefs] using hx
    have hy' : noRef y = true ∧ noRefs ys = true := by simpa [noRefs] using hy
    have h' : alk x y = true ∧ alks xs ys = true := by simpa [alks] using h
    simp only [pds, ltVs]
    rw [PySem.W.dataLt_cons (by rw [alike_pd x y hx'.1 hy'.1, h'.1]), eqv_pd x y hx'.1 hy'.1, lts_pd xs ys hx'.2 hy'.2 h'.2, lt_pd x y hx'.1 hy'.1 h'.1]
end
theorem op_ltD {X : Cx} (hu : X.A.units + 64 < cLine) : OpR X (compareOp .Lt) (fun x y H Q => ∃ d e, Dp X.K H x d ∧ Dp X.K H y e ∧ PySem.W.alike d e = true ∧ d ≠ .none ∧ d.depth ≤ 60 ∧ Q (.bl (PySem.W.dataLt d e)) H) := by
  intro pins s σ H x y v u Q I rx ry h
  obtain ⟨d, e, hd, he, ha, hn, hz, q⟩ := h
  obtain ⟨as, r1⟩ := Dp.reads I d x v hd rx
  obtain ⟨bs, r2⟩ := Dp.reads I e y u he ry
  exact PySem.W.lt_data r1 r2 ha hn (by omega) ⟨.bl _, H, I, rfl, q⟩
theorem op_eq0 {X : Cx} (hu : X.A.units + 64 < cLine) : OpR X (compareOp .Eq) (fun x y H Q => ∃ a b xs, x = .ref a ∧ y = .ref b ∧ SqT X.K H a xs ∧ SqT X.K H b [] ∧ Q (.bl xs.isEmpty) H) := by
  intro pins s σ H x y v u Q I rx ry h
  obtain ⟨a, b, xs, rfl, rfl, ha, hb, q⟩ := h
  cases rx
  cases ry
  obtain ⟨us, r1, t1, _⟩ := I.tuple ha
  obtain ⟨ws, r2, t2, _⟩ := I.tuple hb
  cases r2
  have e : ((List.range (min us.toArray.size (#[] : Array Value).size)).all (fun _ => true) && us.toArray.size == (#[] : Array Value).size) = xs.isEmpty := by
    cases r1 <;> simp
  refine SeqAt.eq_tupleAt (items2 := #[]) (e := fun _ => true) t1 t2 (by omega) (fun j h1 h2 => absurd h2 (by simp)) ?_
  rw [e]
  exact ⟨.bl _, H, I, rfl, q⟩
theorem op_ne0 {X : Cx} (hu : X.A.units + 64 < cLine) : OpR X (compareOp .NotEq) (fun x y H Q => ∃ a b xs, x = .ref a ∧ y = .ref b ∧ SqT X.K H a xs ∧ SqT X.K H b [] ∧ Q (.bl (!xs.isEmpty)) H) := by
  intro pins s σ H x y v u Q I rx ry h
  obtain ⟨a, b, xs, rfl, rfl, ha, hb, q⟩ := h
  cases rx
  cases ry
  obtain ⟨us, r1, t1, _⟩ := I.tuple ha
  obtain ⟨ws, r2, t2, _⟩ := I.tuple hb
  cases r2
  have e : (!((List.range (min us.toArray.size (#[] : Array Value).size)).all (fun _ => true) && us.toArray.size == (#[] : Array Value).size)) = !xs.isEmpty := by
    cases r1 <;> simp
  refine SeqAt.RcNeAt.tuples (items2 := #[]) (e := fun _ => true) t1 t2 (by omega) (fun j h1 h2 => absurd h2 (by simp)) _ _ _ _ ?_
  rw [e]
  exact ⟨.bl _, H, I, rfl, q⟩
def cop : Cmp → CmpOp
  | .eq => .Eq | .ne => .NotEq | .lt => .Lt | .le => .LtE | .gt => .Gt | .ge => .GtE | .isN => .Is | .isNotN => .IsNot | .inn => .In | .notIn => .NotIn
theorem VR.non_iff {K : PySem.W.Frag} {ι : List Addr} {H : Hp} {x : Val} {v : V} (h : VR K ι H x v) : decide (v = .non) = isNon x := by
  cases h <;> simp [isNon]
def rCmp (G : Gs) (o : Cmp) : R2 := fun x y H Q => ∃ ι M a b k, HR G ι M H ∧ VR G.K ι H a x ∧ VR G.K ι H b y ∧ cmpV o a b M = some k ∧ Q (.bl k) H
theorem any_pd0 : ∀ {xs : List Val} {x : Val}, noRefs xs = true → noRef x = true → ((pds xs).any fun z => PyData.eqv z (pd x)) = xs.any fun z => eqV z x
  | [], x, _, _ => by simp [pds]
  | y :: ys, x, h, hx => by
    have h' : noRef y = true ∧ noRefs ys = true := by simpa [noRefs] using h
    simp only [pds, List.any_cons]
    rw [eqv_pd y x h'.1 hx, any_pd0 h'.2 hx]
theorem cmp_run (gk : G.K = X.K) (hu0 : X.A.units + 65 < cLine) (o : Cmp) : OpR X (compareOp (cop o)) (rCmp G o) := by
  have hu : X.A.units + 64 < cLine := by omega
  obtain ⟨K, cl⟩ := G
  obtain rfl : K = X.K := gk
  rintro ps s σ' H x y v u Q I rx ry ⟨ι, M, a, b, k, hr, ha, hb, e, q⟩
  unfold cmpV at e
  split at e
  · cases hb
    refine op_isN ps s σ' H _ _ v u Q I rx ry ⟨rfl, ?_⟩
    rw [ha.non_iff]
    cases e
    exact q
  · cases hb
    refine op_notN ps s σ' H _ _ v u Q I rx ry ⟨rfl, ?_⟩
    rw [ha.non_iff]
    cases e
    exact q
  · cases ha; cases hb; cases e
    exact op_is_bl ps s σ' H _ _ v u Q I rx ry ⟨_, _, rfl, rfl, q⟩
  · cases ha; cases hb; cases e
    exact op_isnot_bl ps s σ' H _ _ v u Q I rx ry ⟨_, _, rfl, rfl, q⟩
  · split at e
    · rename_i xs ys c
      cases e
      have c' : (((noRefs xs = true ∧ noRefs ys = true) ∧ alks xs ys = true) ∧ depths xs ≤ 59) ∧ depths ys ≤ 59 := by simpa using c
      have n1 : noRef (.tup xs) = true := by simpa [noRef] using c'.1.1.1.1
      have n2 : noRef (.tup ys) = true := by simpa [noRef] using c'.1.1.1.2
      refine op_ltD hu ps s σ' H _ _ v u Q I rx ry ⟨pd (.tup xs), pd (.tup ys), (ha.dp n1).1, (hb.dp n2).1, by rw [alike_pd _ _ n1 n2]; exact c'.1.1.2, by simp [pd], by rw [pd_depth]; simp only [depth]; omega, ?_⟩
      rw [lt_pd _ _ n1 n2 c'.1.1.2]
      exact q
    · cases e
  · cases e
    cases ha with
    | tup h1 r1 => cases hb with
      | tup h2 r2 =>
        cases r2
        refine op_eq0 hu ps s σ' H _ _ v u Q I rx ry ⟨_, _, _, rfl, rfl, h1, h2, ?_⟩
        cases r1 <;> exact q
  · cases e
    cases ha with
    | tup h1 r1 => cases hb with
      | tup h2 r2 =>
        cases r2
        refine op_ne0 hu ps s σ' H _ _ v u Q I rx ry ⟨_, _, _, rfl, rfl, h1, h2, ?_⟩
        cases r1 <;> exact q
  · cases ha; cases hb; cases e
    exact op_lt ps s σ' H _ _ v u Q I rx ry ⟨_, _, rfl, rfl, q⟩
  · cases ha; cases hb; cases e
    exact op_le ps s σ' H _ _ v u Q I rx ry ⟨_, _, rfl, rfl, q⟩
  · cases ha; cases hb; cases e
    exact op_gt ps s σ' H _ _ v u Q I rx ry ⟨_, _, rfl, rfl, q⟩
  · cases ha; cases hb; cases e
    exact op_ge ps s σ' H _ _ v u Q I rx ry ⟨_, _, rfl, rfl, q⟩
  · cases ha; cases hb; cases e
    exact op_lt_str ps s σ' H _ _ v u Q I rx ry ⟨_, _, rfl, rfl, by rw [toS_list, toS_list]; exact q⟩
  · cases ha; cases hb; cases e
    exact op_le_str ps s σ' H _ _ v u Q I rx ry ⟨_, _, rfl, rfl, by rw [toS_list, toS_list]; exact q⟩
  · cases ha with
    | ref ha => cases hb with
      | ref hb =>
        unfold eqL at e
        split at e
        · rename_i e1 e2
          obtain ⟨vs1, h1, r1⟩ := hr.sq_at e1 ha
          obtain ⟨vs2, h2, r2⟩ := hr.sq_at e2 hb
          split at e
          · rename_i xs ys c
            cases e
            have c' : ((noRefs xs = true ∧ noRefs ys = true) ∧ depths xs ≤ 59) ∧ depths ys ≤ 59 := by simpa using c
            have z1 := VRs.dp r1 c'.1.1.1
            have z2 := VRs.dp r2 c'.1.1.2
            refine op_eqD hu ps s σ' H _ _ v u Q I rx ry ⟨.list (pds xs), .list (pds ys), .lst h1 z1.1, .lst h2 z2.1, shaped_list z1.2 c'.1.2, shaped_list z2.2 c'.2, ?_⟩
            have : PyData.eqv (.list (pds xs)) (.list (pds ys)) = eqVs xs ys := by
              simp only [PyData.eqv]
              exact eqv_pds xs ys c'.1.1.1 c'.1.1.2
            rw [this]
            exact q
          · cases e
        · cases e
  · cases ha with
    | ref ha => cases hb with
      | ref hb =>
        unfold eqL at e
        split at e
        · rename_i e1 e2
          obtain ⟨vs1, h1, r1⟩ := hr.sq_at e1 ha
          obtain ⟨vs2, h2, r2⟩ := hr.sq_at e2 hb
          split at e
          · rename_i xs ys c
            cases e
            have c' : ((noRefs xs = true ∧ noRefs ys = true) ∧ depths xs ≤ 59) ∧ depths ys ≤ 59 := by simpa using c
            have z1 := VRs.dp r1 c'.1.1.1
            have z2 := VRs.dp r2 c'.1.1.2
            refine op_neD hu ps s σ' H _ _ v u Q I rx ry ⟨.list (pds xs), .list (pds ys), .lst h1 z1.1, .lst h2 z2.1, shaped_list z1.2 c'.1.2, shaped_list z2.2 c'.2, ?_⟩
            have : PyData.eqv (.list (pds xs)) (.list (pds ys)) = eqVs xs ys := by
              simp only [PyData.eqv]
              exact eqv_pds xs ys c'.1.1.1 c'.1.1.2
            rw [this]
            exact q
          · cases e
        · cases e
  · split at e
    · rename_i c
      cases e
      have c' : ((noRef a = true ∧ noRef b = true) ∧ depth a ≤ 60) ∧ depth b ≤ 60 := by simpa using c
      refine op_eqD hu ps s σ' H _ _ v u Q I rx ry ⟨pd a, pd b, (ha.dp c'.1.1.1).1, (hb.dp c'.1.1.2).1, ha.shaped c'.1.1.1 c'.1.2, hb.shaped c'.1.1.2 c'.2, ?_⟩
      rw [eqv_pd a b c'.1.1.1 c'.1.1.2]
      exact q
    · cases e
  · split at e
    · rename_i c
      cases e
      have c' : ((noRef a = true ∧ noRef b = true) ∧ depth a ≤ 60) ∧ depth b ≤ 60 := by simpa using c
      refine op_neD hu ps s σ' H _ _ v u Q I rx ry ⟨pd a, pd b, (ha.dp c'.1.1.1).1, (hb.dp c'.1.1.2).1, ha.shaped c'.1.1.1 c'.1.2, hb.shaped c'.1.1.2 c'.2, ?_⟩
      rw [eqv_pd a b c'.1.1.1 c'.1.1.2]
      exact q
    · cases e
  · cases ha; cases hb; cases e
    exact op_in_sign ps s σ' H _ _ v u Q I rx ry ⟨_, _, rfl, rfl, by rw [toS_list]; exact q⟩
  · cases ha; cases hb; cases e
    exact op_notIn_sign ps s σ' H _ _ v u Q I rx ry ⟨_, _, rfl, rfl, by rw [toS_list]; exact q⟩
  · cases hb with
    | tup hT rr =>
      split at e
      · rename_i c
        cases e
        obtain ⟨c1, c2⟩ := Bool.and_eq_true_iff.mp c
        obtain ⟨f1, f2⟩ := flats_ok ha c1 rr c2
        refine op_in_seq ps s σ' H _ _ v u Q I rx ry ⟨_, _, rfl, .inr hT, flat_ok ha c1, f1, ?_⟩
        rw [if_neg (by decide), f2]
        exact q
      · cases e
  · cases hb with
    | tup hT rr =>
      split at e
      · rename_i c
        cases e
        obtain ⟨c1, c2⟩ := Bool.and_eq_true_iff.mp c
        obtain ⟨f1, f2⟩ := flats_ok ha c1 rr c2
        refine op_notIn_seq ps s σ' H _ _ v u Q I rx ry ⟨_, _, rfl, .inr hT, flat_ok ha c1, f1, ?_⟩
        rw [if_pos rfl, f2]
        exact q
      · cases e
  · cases hb with
    | ref hb =>
      split at e
      · rename_i xs em
        obtain ⟨vs, h1, r1⟩ := hr.sq_at em hb
        unfold inl1 at e
        split at e
        · rename_i c
          have c' : ((noRef a = true ∧ noRefs xs = true) ∧ depth a ≤ 60) ∧ depths xs ≤ 59 := by simpa using c
          cases e
          have z1 := ha.dp c'.1.1.1
          have z2 := VRs.dp r1 c'.1.1.2
          refine op_inD hu0 ps s σ' H _ _ v u Q I rx ry ⟨pd a, pds xs, z1.1, .lst h1 z2.1, ha.shaped c'.1.1.1 c'.1.2, shaped_list z2.2 c'.2, ?_⟩
          rw [any_pd0 c'.1.1.2 c'.1.1.1]
          exact q
        · cases e
      · cases e
  · cases hb with
    | ref hb =>
      split at e
      · rename_i xs em
        obtain ⟨vs, h1, r1⟩ := hr.sq_at em hb
        unfold inl1 at e
        split at e
        · rename_i c
          have c' : ((noRef a = true ∧ noRefs xs = true) ∧ depth a ≤ 60) ∧ depths xs ≤ 59 := by simpa using c
          cases e
          have z1 := ha.dp c'.1.1.1
          have z2 := VRs.dp r1 c'.1.1.2
          refine op_notInD hu0 ps s σ' H _ _ v u Q I rx ry ⟨pd a, pds xs, z1.1, .lst h1 z2.1, ha.shaped c'.1.1.1 c'.1.2, shaped_list z2.2 c'.2, ?_⟩
          rw [any_pd0 c'.1.1.2 c'.1.1.1]
          exact q
        · cases e
      · cases e
  · cases e

/-! ### truth, length -/
theorem okS.len {s : List Nat} (h : okS s) : (toS s).length ≤ sizeLine := by rw [toS_length, ← lim_eq]; exact h.1
theorem VRs.isEmpty {K : PySem.W.Frag} {ι : List Addr} {H : Hp} {xs : List Val} {vs : List V} (h : VRs K ι H xs vs) : xs.isEmpty = vs.isEmpty := by
  cases h <;> rfl
theorem truth_ok {ι : List Addr} {M : Store} {H : Hp} {x : Val} {v : V} {k : Bool} (hr : HR G ι M H) (h : VR G.K ι H x v) (e : truth M x = some k) : TruV G.K v H k := by
  cases h with
  | non => cases e; rfl
  | bl b => cases e; rfl
  | int i => cases e; rfl
  | str s hs =>
    cases e
    refine ⟨hs.len, ?_⟩
    rw [toS_length]
    cases s with
    | nil => rfl
    | cons c s =>
      have : ((((c :: s).length : Nat) : Int) != 0) = true := by
        rw [bne_iff_ne]; simp; omega
      rw [this]; rfl
  | tup h hs =>
    cases e
    exact .inr (.inl ⟨_, h, by rw [hs.isEmpty]⟩)
  | frz h hs =>
    cases e
    exact .inl ⟨_, h.sq, by rw [hs.isEmpty]⟩
  | fn x => cases e
  | @ref n a h =>
    simp only [truth] at e
    split at e
    · rename_i xs em
      cases e
      obtain ⟨vs, h1, h2⟩ := hr.sq_at em h
      exact .inl ⟨vs, h1, by rw [h2.isEmpty]⟩
    · cases e
theorem len_ok {ι : List Addr} {M : Store} {H : Hp} {x : Val} {v : V} {n : Nat} (hr : HR G ι M H) (h : VR G.K ι H x v) (e : lenV M x = some n) : LenV G.K v H n := by
  cases h with
  | non => cases e
  | bl b => cases e
  | int i => cases e
  | str s hs => cases e; exact ⟨hs.len, by rw [toS_length]⟩
  | tup h hs => cases e; exact .inr ⟨_, h, hs.length⟩
  | frz h hs => cases e; exact .inl ⟨_, h.sq, hs.length⟩
  | fn x => cases e
  | @ref m a h =>
    simp only [lenV] at e
    split at e
    · rename_i em
      cases e
      obtain ⟨vs, h1, h2⟩ := hr.sq_at em h
      exact .inl ⟨vs, h1, h2.length⟩
    · cases e
end
end Mi
end MiExpS

section MiCallS
set_option Elab.async false
set_option linter.all false
set_option maxRecDepth 100000
/-! calls where no repr is under way -/
namespace Mi
open PySem PySem.Spec PyProof.Rows L2
abbrev XT (P : Program) (w : World) : CXT := L2.CX P w
/-- a def keeps its promise wherever no repr is under way -/
structure FnG (P : Program) (w : World) (K : PySem.W.Frag) (mg : Str → Option Value) (base : Heap) (k : Nat) (f : Addr) (fd : FuncData) (ps : List Str) (sp : Sp) : Prop where
  many : ∀ xs H Q E, sp xs H Q E → xs.length = ps.length
  go : ∀ (A : Around) (o : List Env) (z : Shared) (H : Hp) (ar : Args) (us : List Value) (xs : List V) (Q : VK) (E : XK), A.guards = some [] → Room k A → Env0 P w K mg base A o z H → BindsTo z fd ar (ps.zip us) → Vals xs us → sp xs H Q E → codeAny (model P w) A (.call (.ref f) ar) (CR (XT P w) o P w H z Q E) z
theorem Around.deep_guards {A : Around} {env : Env} (h : A.guards = some []) : (A.deeper env).guards = some [] := by
  first
    | exact h
    | simp [Around.deeper, h, pushGuards]
section
variable {X : Cx} {k : Nat} {f : Addr} {fd : FuncData} {ps : List Str} {sp : Sp} {E : L2.St → XK} {x : Str} {p pos : Pos}
theorem goG {pl : List (Addr × PySem.Obj)} {σ : L2.St} {H : Hp} {z : Shared} {Q : VK} {us : List Value} {xs : List V} (F : FnG X.prog X.w X.K X.mg X.base k f fd ps sp) (gd : X.A.guards = some []) (rm : Room k X.A) (bn : Binds X.K fd ps []) (px : PassesAt (XT X.prog X.w) X σ (E σ)) (J : Inv X pl σ H z) (rv : Vals xs us) (q : sp xs H Q (E σ)) :
    wpAny (model X.prog X.w) X.A (PySem.call (.ref f) us) (EP X pl σ Q) X.xe z := by
  have n1 : us.length = ps.length := rv.length ▸ F.many _ _ _ _ q
  have n2 := bn z us J.kIn (by simpa using n1)
  simp only [List.append_nil] at n2
  refine wpAny_call (codeAny_mono (F.go X.A X.stack z H ⟨us, []⟩ us xs Q (E σ) gd rm J.env0 n2 rv q) ?_)
  intro r z2 hq
  match r, hq with
  | .error e, hq => exact px pl H z e z2 J hq
  | .ok (.ret u), hq => exact J.after hq
theorem callG {e : Expr} {es : List Expr} {t : TA} (F : FnG X.prog X.w X.K X.mg X.base k f fd ps sp) (gd : X.A.guards = some []) (rm : Room k X.A) (hg : Gl X x) (hm : X.mg x = some (.ref f)) (kp : PySem.W.keepIn X.K (.ref f) = true) (bn : Binds X.K fd ps []) (px : ∀ σ, PassesAt (XT X.prog X.w) X σ (E σ)) (ha : PA X (e :: es) t) (nd : (x == ("__debug__" : Str)) = false)
    (h1 : starEach (e :: es) X.env = (false, eval e X.env) :: starEach es X.env) (h2 : (backTo pos (starEach es X.env)).any (·.1) = false) : PE X (.Call (.Name x p) (e :: es) [] pos) (tCallS sp E t) := by
  constructor
  intro pl z σ H Q J q
  refine wpAny_Call_Name_kw (ld_glob J hg hm (PySem.W.callWith_K (h₀ := X.base) J.ok.mod.kin kp ?_ h1 h2) nd)
  refine thn (ha.run pos pl z σ H _ J q) ?_
  rintro us z1 ⟨xs, H1, J1, rv, q1⟩
  exact ⟨J1.kIn, goG F gd rm bn (px σ) J1 rv q1⟩
theorem callG0 (F : FnG X.prog X.w X.K X.mg X.base k f fd ps sp) (gd : X.A.guards = some []) (rm : Room k X.A) (hg : Gl X x) (hm : X.mg x = some (.ref f)) (kp : PySem.W.keepIn X.K (.ref f) = true) (bn : Binds X.K fd ps []) (px : ∀ σ, PassesAt (XT X.prog X.w) X σ (E σ)) (nd : (x == ("__debug__" : Str)) = false) : PE X (.Call (.Name x p) [] [] pos) (tCallS sp E tNil) := by
  constructor
  intro pl z σ H Q J q
  exact wpAny_Call_Name_kw (ld_glob J hg hm (PySem.W.callWith_K0 J.kIn kp (goG (us := []) F gd rm bn (px σ) J .nil q)) nd)
end
/-- a def by its body, where no repr is under way -/
theorem fnG {P : Program} {w : World} {K : PySem.W.Frag} {mg : Str → Option Value} {base : Heap} {k : Nat} {f : Addr} {fd : FuncData} {x qual : Str} {pa : Arguments} {bd : List Stmt} {sc : Scope} {dvs : List V} {kws : List (Str × V)} {N ps : List Str} {sp : Sp} (F : FunD K x qual pa bd sc dvs kws f fd) (S : FnScope N ps sc) (many : ∀ xs H Q E, sp xs H Q E → xs.length = ps.length)
    (body : ∀ (cv : Value) (A : Around) (o : List Env) (z : Shared) (H : Hp) (xs : List V) (Q : VK) (E : XK), A.guards = some [] → Room k (A.deeper (envOfC qual sc z.heap.objs.size f cv)) → sp xs H Q E → ∃ t, PSs (cxOf (XT P w) P w K mg base N qual sc f cv A o z H E) bd t ∧ t { nx := fun _ H' => Q .non H', rt := Q } (L2.start N xs) H) :
    FnG P w K mg base (k + 1) f fd ps sp := by
  obtain ⟨oc, od, dV, kV, doc, pm, an, cv, ct, sl, rfl, lk, hcv, _, _⟩ := F.ex
  refine ⟨many, ?_⟩
  intro A o z H ar us xs Q E gd rm e0 bn rv q
  have hl := many _ _ _ _ q
  have kz : ∀ b u, base.get? b = some u → z.heap.get? b = some u := fun b u e => (e0.bs b u e).1
  have KX : K.In z.heap := e0.mod.kin.keeps kz
  refine codeAny_call_function rm.depth (KX _ _ lk) rfl S.co S.gen rfl (PySem.W.codeRec_of KX hcv) (bn _ _ _ _ (wpAny_newFunctionEnv_cells S.kind ?_ ?_))
  · rintro ⟨n, v⟩ hy
    rcases S.par n (List.of_mem_zip hy).1 with c | c
    · exact .inl c
    · exact .inr ⟨c, PySem.W.cellsFrom_some _ _ _ (.inl c)⟩
  · intro env he z1 cx
    subst he
    obtain ⟨t, ht, hq⟩ := body cv A o z H xs Q E gd (rm.deeper _) q
    refine ⟨(e0.mod.nolimit.keeps kz).keeps cx.toInCall.keep, codeAny_func ?_⟩
    refine wpAny_mono (ht.run [] z1 (L2.start N xs) H _ (inv_start S rm.hd e0 hl rv cx) hq) ?_ fun _ _ z => z
    intro fl z2 hs
    match fl, hs with
    | .ret u, ⟨v, σ', H', J, r2, q2⟩ => exact ⟨v, H', J.os, J.bare, J.base, J.hok, r2, q2⟩
    | .next, ⟨σ', H', J, q2⟩ => exact ⟨V.non, H', J.os, J.bare, J.base, J.hok, (rfl : RelV V.non Value.none), q2⟩
    | .brk, ⟨_, _, _, q2⟩ => exact q2.elim
    | .cont, ⟨_, _, _, q2⟩ => exact q2.elim
end Mi
end MiCallS

section MiRunS
set_option Elab.async false
set_option linter.all false
set_option maxRecDepth 100000
/-! the walked tree keeps to the runs of the small language: expressions -/
namespace Mi
open PySem L2

inductive GI where
  | fn (g k : Nat) | con (v : Val) | exc (c : Nat) | blt | tab
structure Ct where
  sc : Scope
  N : List Str
  gl : Str → Option GI
  fnc : Str → Bool
/-- what a call of the small language promises -/
def PostC (G : Gs) (ι : List Addr) (H : Hp) (Q : VK) (E : XK) : Res Val → Prop
  | .ok v M => ∀ ι' H' w, Le ι H ι' H' → HR G ι' M H' → VR G.K ι' H' v w → Q w H'
  | .exc x M => ∀ ι' H' cls d, Le ι H ι' H' → HR G ι' M H' → XR G ι' H' x cls d → E cls d H'
  | .bad => False
def spI (G : Gs) (cf : CallF) (g k : Nat) : Sp := fun vs H Q E => ∃ ι M xs, xs.length = k ∧ VRs G.K ι H xs vs ∧ HR G ι M H ∧ PostC G ι H Q E (cf g xs M)
structure FnAt (X : Cx) (G : Gs) (cf : CallF) (lv : Nat) (x : Str) (g k : Nat) : Prop where
  ex : ∃ (f : Addr) (fd : FuncData) (ps : List Str), X.mg x = some (.ref f) ∧ PySem.W.keepIn X.K (.ref f) = true ∧ Binds X.K fd ps [] ∧ FnG X.prog X.w X.K X.mg X.base lv f fd ps (spI G cf g k)
/-- a def that is a value, by its name -/
structure FnX (X : Cx) (G : Gs) (cf : CallF) (lv : Nat) (x : Str) (g : Nat) : Prop where
  ex : ∃ (k : Nat) (fd : FuncData) (ps : List Str), PySem.W.keepIn X.K (.ref (He.ga X.K x)) = true ∧ Binds X.K fd ps [] ∧ FnG X.prog X.w X.K X.mg X.base lv (He.ga X.K x) fd ps (spI G cf g k) ∧ ∀ xs M, xs.length ≠ k → cf g xs M = .bad
/-- a table of the module with text keys -/
structure TabAt (X : Cx) (x : Str) (kvs : List (List Nat × Val)) : Prop where
  mg : X.mg x = some (.ref (He.ga X.K x))
  dic : ∃ es n, KDict X.K X.w (He.ga X.K x) es n
  get : ∀ s v, (kvs.find? fun p => p.1 == s).map (·.2) = some v → ∃ u w, PySem.W.nsIn X.K (He.ga X.K x) (toS s) = some (some u) ∧ RelV w u ∧ ∀ ι H, VR X.K ι H v w
  has : ∀ s, ∃ r, PySem.W.nsIn X.K (He.ga X.K x) (toS s) = some r ∧ r.isSome = kvs.any fun p => p.1 == s
structure ExcAt (X : Cx) (G : Gs) (x : Str) (c : Nat) : Prop where
  mg : X.mg x = some (.ref (G.cls c))
  inn : ∃ (bmB : List Value) (B newId initId : String), ExcBaseFacts B newId initId bmB ∧ PySem.W.excIn X.K (G.cls c) bmB newId = true
  kp : PySem.W.keepIn X.K (.ref (G.cls c)) = true
  is : ExcC X.K (G.cls c)
  ty : PySem.W.typeIn X.K (.ref (G.cls c)) = some (.type "type")
  no : ∀ T ∈ ["int", "bool", "str", "tuple", "list", "dict"], PySem.W.kitOne X.K (.ref (G.cls c)) (.type T) = some false
/-- what repr gives -/
def rRepr (G : Gs) (rp : Val → Store → Option (List Nat)) : List V → Hp → VK → Prop := fun xs H Q => ∃ ι M a v z, xs = [v] ∧ HR G ι M H ∧ VR G.K ι H a v ∧ rp a M = some z ∧ okS z ∧ Q (.str (toS z)) H
def RepOk (G : Gs) (rp : Val → Store → Option (List Nat)) (lv : Nat) : Prop := ∀ X : Cx, X.K = G.K → X.A.guards = some [] → Room lv X.A → X.calm = true → CallR X (.builtin "repr") (rRepr G rp)
structure Good (X : Cx) (G : Gs) (W : WX) (cf : Cf) (ct : Ct) (lv : Nat) : Prop where
  gk : G.K = X.K
  sc : X.env.scope = ct.sc
  N : X.N = ct.N
  nd : X.N.Nodup
  calm : X.calm = true
  takes : Takes X W
  room : Room lv X.A
  gds : X.A.guards = some []
  fnc : X.fn = ct.fnc
  fn : ∀ x g k, ct.gl x = some (.fn g k) → FnAt X G cf.call lv x g k
  gaf : ∀ x g k, ct.gl x = some (.fn g k) → X.mg x = some (.ref (He.ga X.K x))
  fnx : ∀ x g, cf.eqx.fno x = some g → FnX X G cf.call lv x g
  tabs : ∀ x, ct.gl x = some .tab → ∃ kvs, cf.eqx.tab x = some kvs ∧ TabAt X x kvs
  con : ∀ x v, ct.gl x = some (.con v) → ∃ u w, X.mg x = some u ∧ RelV w u ∧ ∀ ι H, VR X.K ι H v w
  blt : ∀ x, ct.gl x = some .blt → X.mg x = none
  exc : ∀ x c, ct.gl x = some (.exc c) → ExcAt X G x c
  rep : RepOk G cf.repr lv
  exm : ∀ c1 c2 : Nat, PySem.W.exmOne X.K (.ref (G.cls c1)) (.ref (G.cls c2)) = some (cf.sub c1 c2)
  exs : ∀ c : Nat, ExcC X.K (G.cls c) ∧ ∀ T ∈ ["int", "bool", "str", "tuple", "list", "dict"], PySem.W.kitOne X.K (.ref (G.cls c)) (.type T) = some false
theorem Good.hu {X : Cx} {G : Gs} {W : WX} {cf : Cf} {ct : Ct} {lv : Nat} (g : Good X G W cf ct lv) : X.A.units + 64 < cLine := g.room.units
theorem Good.hu1 {X : Cx} {G : Gs} {W : WX} {cf : Cf} {ct : Ct} {lv : Nat} (g : Good X G W cf ct lv) : X.A.units + 1 < cLine := hu_of g.room

def visB (sc : Scope) (x : Str) : Bool := match sc.names.lookup x with
  | some .local => true
  | some .cell => true
  | some .free => true
  | _ => false
def glB (sc : Scope) (x : Str) : Bool := match sc.names.lookup x with
  | some .globalImplicit => true
  | _ => false
theorem visB_ok {sc : Scope} {x : Str} (h : visB sc x = true) : Vis sc x := by
  unfold visB at h
  split at h
  · exact .inl (by assumption)
  · exact .inr (.inl (by assumption))
  · exact .inr (.inr (by assumption))
  · cases h
theorem glB_ok {X : Cx} {sc : Scope} {x : Str} (e : X.env.scope = sc) (h : glB sc x = true) : Gl X x := by
  unfold glB at h
  split at h
  · show X.env.scope.names.lookup x = _
    rw [e]; assumption
  · cases h
/-- a test that asks a value for its truth -/
def plainTest : Expr → Bool
  | .UnaryOp .Not _ _ => false
  | .BoolOp _ _ _ => false
  | .IfExp _ _ _ _ => false
  | .Compare _ _ _ _ => false
  | _ => true
theorem plainTest_ok {e : Expr} {env : Env} (h : plainTest e = true) : ∀ whole, isTrue e env whole = (do let v ← whole; standAt e.pos; holding [v] (truthy v)) := by
  intro whole
  cases e with
  | UnaryOp op a p => cases op <;> first | rfl | cases h
  | BoolOp => cases h
  | IfExp => cases h
  | Compare => cases h
  | _ => rfl
def notSet : Expr → Bool
  | .Set _ _ _ => false
  | _ => true
theorem notSet_ok {b : Expr} {op : CmpOp} (h : notSet b = true) : behindInMarks op b = false := by
  cases b <;> first | rfl | cases h
def notSlice : Expr → Bool
  | .Slice _ _ _ _ => false
  | _ => true
theorem notSlice_ok {b : Expr} (h : notSlice b = true) : PlainIx b := by
  intro o i
  cases b <;> first | rfl | cases h
def notStar : Expr → Bool
  | .Starred _ _ => false
  | _ => true
theorem star_ok {e : Expr} {es : List Expr} {env : Env} (h : notStar e = true) : starEach (e :: es) env = (false, eval e env) :: starEach es env := by
  cases e <;> first | rfl | cases h
theorem stars_ok {env : Env} {pos : Pos} : ∀ {es : List Expr}, es.all notStar = true → (backTo pos (starEach es env)).any (·.1) = false
  | [], _ => rfl
  | e :: es, h => by
    have h' : notStar e = true ∧ es.all notStar = true := by simpa using h
    rw [star_ok h'.1]
    show (false || (backTo pos (starEach es env)).any (·.1)) = false
    rw [stars_ok h'.2]; rfl
def notCall0 : Expr → Bool
  | .Call (.Name _ _) [] [] _ => false
  | _ => true
theorem base_ok {o : Expr} {a : Str} {env : Env} {w : Sem Value} (h : notCall0 o = true) : attributeBase o a env w = w := by
  unfold attributeBase
  split
  · cases h
  · rfl
section
variable {X : Cx} {G : Gs} {W : WX} {cf : Cf} {ct : Ct} {lv : Nat}

theorem pt_of (g : Good X G W cf ct lv) {e : Expr} {m : E} (h : PE X e (tE G W cf m)) (hp : plainTest e = true) : PT X e (tT G W cf m) := by
  refine (pt_truth h (plainTest_ok hp)).imp fun σ H Q q => ?_
  obtain ⟨ι, τ, M, hs, hr, q⟩ := q
  refine ⟨ι, τ, M, hs, hr, q.bind fun x M1 ι1 H1 w _ l1 hr1 r1 q1 => ?_⟩
  obtain ⟨k, e, q2⟩ := q1.opt
  refine ⟨k, ?_, q2.here hr1 rfl⟩
  rw [← g.gk]
  exact truth_ok hr1 r1 e
theorem e_var (g : Good X G W cf ct lv) {i : Nat} {x : Str} {pos : Pos} (hN : ct.N[i]? = some x) (hv : visB ct.sc x = true) (h1 : (x == ("__debug__" : Str)) = false) (h2 : (x == ("__classdict__" : Str)) = false) : PE X (.Name x pos) (tE G W cf (.var i)) := by
  refine (pe_var (i := i) (by rw [g.N]; exact hN) (by rw [g.sc]; exact visB_ok hv) h1 h2).imp fun σ H Q q => ?_
  obtain ⟨ι, τ, M, hs, hr, q⟩ := q
  unfold ev at q
  split at q
  · rename_i v e
    obtain ⟨w, e2, r⟩ := hs.at_ i v e
    exact ⟨w, e2, q.here hr r⟩
  · exact q.elim
theorem e_cst (g : Good X G W cf ct lv) {e : Expr} {v : Val} {w : V} (h : PE X e (tC w)) (r : ∀ ι H, VR G.K ι H v w) : PE X e (tE G W cf (.cst v)) := by
  refine h.imp fun σ H Q q => ?_
  obtain ⟨ι, τ, M, hs, hr, q⟩ := q
  exact q.here hr (r ι H)
theorem e_con (g : Good X G W cf ct lv) {x : Str} {v : Val} {pos : Pos} (hg : glB ct.sc x = true) (hx : ct.gl x = some (.con v)) (h1 : (x == ("__debug__" : Str)) = false) : PE X (.Name x pos) (tE G W cf (.cst v)) := by
  obtain ⟨u, w, hm, r, k⟩ := g.con x v hx
  exact e_cst g (pe_glob (glB_ok g.sc hg) hm r h1) (by rw [g.gk]; exact k)
theorem e_op (g : Good X G W cf ct lv) {a b : Expr} {ma mb : E} {o : Op2} {pos : Pos} (ha : PE X a (tE G W cf ma)) (hb : PE X b (tE G W cf mb)) : PE X (.BinOp a (opr o) b pos) (tE G W cf (.op o ma mb)) := by
  refine (pe_op (op2_run (W := W) g.gk o) ha hb).imp fun σ H Q q => ?_
  obtain ⟨ι, τ, M, hs, hr, q⟩ := q
  unfold ev at q
  refine ⟨ι, τ, M, hs, hr, q.bind fun x M1 ι1 H1 v _ l1 hr1 r1 q1 => ?_⟩
  refine ⟨ι1, τ, M1, hs.mono l1, hr1, q1.bind fun y M2 ι2 H2 w _ l2 hr2 r2 q2 => ?_⟩
  exact ⟨σ, ι2, M2, x, y, hr2, r1.mono l2, r2, q2⟩
theorem cmp_read {σ : L2.St} {H : Hp} {Q : VK} {ma mb : E} {o : Cmp} (q : tE G W cf (.cmp o ma mb) σ H Q) : tOp (rCmp G o) (tE G W cf ma) (tE G W cf mb) σ H Q := by
  obtain ⟨ι, τ, M, hs, hr, q⟩ := q
  unfold ev at q
  refine ⟨ι, τ, M, hs, hr, q.bind fun x M1 ι1 H1 v _ l1 hr1 r1 q1 => ?_⟩
  refine ⟨ι1, τ, M1, hs.mono l1, hr1, q1.bind fun y M2 ι2 H2 w _ l2 hr2 r2 q2 => ?_⟩
  obtain ⟨z, e, q3⟩ := q2.opt
  obtain ⟨k, e2, rfl⟩ := Option.map_eq_some_iff.mp e
  exact ⟨ι2, M2, x, y, k, hr2, r1.mono l2, r2, e2, q3.here hr2 (.bl k)⟩
theorem e_cmp (g : Good X G W cf ct lv) {a b : Expr} {ma mb : E} {o : Cmp} {pos : Pos} (ha : PE X a (tE G W cf ma)) (hb : PE X b (tE G W cf mb)) (hn : notSet b = true) : PE X (.Compare a [cop o] [b] pos) (tE G W cf (.cmp o ma mb)) :=
  (pe_cmpR (cmp_run g.gk (by have := g.room.un; omega) o) ha hb (notSet_ok hn)).imp fun σ H Q q => cmp_read q
theorem t_cmp (g : Good X G W cf ct lv) {a b : Expr} {ma mb : E} {o : Cmp} {pos : Pos} (ha : PE X a (tE G W cf ma)) (hb : PE X b (tE G W cf mb)) (hn : notSet b = true) : PT X (.Compare a [cop o] [b] pos) (tT G W cf (.cmp o ma mb)) := by
  refine (pt_cmpR (cmp_run g.gk (by have := g.room.un; omega) o) ha hb (notSet_ok hn)).imp fun σ H Q q => ?_
  refine cmp_read (Q := fun x H' => ∃ k, x = .bl k ∧ Q k H') ?_
  obtain ⟨ι, τ, M, hs, hr, q⟩ := q
  refine ⟨ι, τ, M, hs, hr, q.bind fun x M1 ι1 H1 v e1 l1 hr1 r1 q1 => ?_⟩
  obtain ⟨k, e, q2⟩ := q1.opt
  unfold ev at e1
  have isb : ∃ b, x = .bl b := by
    cases h1 : ev cf ma τ M with
    | ok x1 M2 =>
      rw [h1] at e1
      cases h2 : ev cf mb τ M2 with
      | ok x2 M3 =>
        simp only [Res.bind_ok, h2] at e1
        cases h3 : cmpV o x1 x2 M3 with
        | none => rw [h3] at e1; cases e1
        | some b => rw [h3] at e1; cases e1; exact ⟨b, rfl⟩
      | exc => simp only [Res.bind_ok, h2] at e1; cases e1
      | bad => simp only [Res.bind_ok, h2] at e1; cases e1
    | exc => rw [h1] at e1; cases e1
    | bad => rw [h1] at e1; cases e1
  obtain ⟨b, rfl⟩ := isb
  cases r1
  cases e
  exact ⟨_, rfl, q2.here hr1 rfl⟩
end
end Mi
end MiRunS

section MiDicS
set_option Elab.async false
set_option linter.all false
set_option maxRecDepth 100000
namespace Mi
open PySem L2
/-! ### dicts: what they hold, a value put -/
theorem key_ok {K : PySem.W.Frag} {ι : List Addr} {H : Hp} {x : Val} {v : V} (r : VR K ι H x v) (h : keyV x = true) : ∃ k, keyOf x = some k ∧ v = kV k := by
  cases r with
  | int i => exact ⟨.inl i, rfl, rfl⟩
  | str s hs => exact ⟨.inr (toS s), rfl, rfl⟩
  | _ => cases h
theorem keyE_eq {x y : Val} {k l : Key} (hx : keyOf x = some k) (hy : keyOf y = some l) : keyE x y = decide (k = l) := by
  cases x with
  | int i => cases y with
    | int j =>
      cases hx; cases hy
      show (i == j) = _
      by_cases e : i = j
      · subst e; simp
      · have : ¬ (Sum.inl i : Key) = Sum.inl j := fun z => e (Sum.inl.inj z)
        rw [decide_eq_false this, beq_eq_false_iff_ne.mpr e]
    | str t =>
      cases hx; cases hy
      have : ¬ (Sum.inl i : Key) = Sum.inr (toS t) := fun z => by cases z
      rw [decide_eq_false this]; rfl
    | _ => cases hy
  | str s => cases y with
    | int j =>
      cases hx; cases hy
      have : ¬ (Sum.inr (toS s) : Key) = Sum.inl j := fun z => by cases z
      rw [decide_eq_false this]; rfl
    | str t =>
      cases hx; cases hy
      show (s == t) = _
      by_cases e : s = t
      · subst e; simp
      · have : ¬ (Sum.inr (toS s) : Key) = Sum.inr (toS t) := fun z => e (toS_inj (Sum.inr.inj z))
        rw [decide_eq_false this, beq_eq_false_iff_ne.mpr e]
    | _ => cases hy
  | _ => cases hx
theorem keyE_V {x y : Val} (h : keyE x y = true) : keyV y = true := by
  cases x <;> cases y <;> first | rfl | cases h
theorem KVs.get {K : PySem.W.Frag} {ι : List Addr} {H : Hp} {y : Val} {k : Key} (hy : keyOf y = some k) : ∀ {ks : List (Val × Val)} {ws : List (Key × V)}, KVs K ι H ks ws → ∀ {v : Val}, dicGet ks y = some v → ∃ w, valV ws k = some w ∧ VR K ι H v w
  | [], _, h, v, e => by simp [dicGet] at e
  | p :: ks, _, h, v, e => by
    cases h with
    | @cons _ q _ qs h1 t =>
      have ek := keyE_eq h1.1.1 hy
      unfold dicGet at e
      by_cases c : q.1 = k
      · rw [List.find?_cons, ek, decide_eq_true c] at e
        simp only [Option.map_some, Option.some.injEq] at e
        subst e
        exact ⟨q.2, valV_pos c, h1.2⟩
      · rw [List.find?_cons, ek, decide_eq_false c] at e
        rw [valV_neg c]
        exact KVs.get hy t (v := v) (by unfold dicGet; exact e)
theorem KVs.any {K : PySem.W.Frag} {ι : List Addr} {H : Hp} {y : Val} {k : Key} (hy : keyOf y = some k) : ∀ {ks : List (Val × Val)} {ws : List (Key × V)}, KVs K ι H ks ws → (ks.any fun p => keyE p.1 y) = ws.any fun q => decide (q.1 = k)
  | [], _, h => by cases h; rfl
  | p :: ks, _, h => by
    cases h with
    | @cons _ q _ qs h1 t =>
      rw [List.any_cons, List.any_cons, keyE_eq h1.1.1 hy, KVs.any hy t]
theorem KVs.repl {K : PySem.W.Frag} {ι : List Addr} {H : Hp} {y z : Val} {k : Key} {w : V} (hy : keyOf y = some k) (rz : VR K ι H z w) : ∀ {ks : List (Val × Val)} {ws : List (Key × V)}, KVs K ι H ks ws → KVs K ι H (ks.map fun p => if keyE p.1 y = true then (p.1, z) else p) (ws.map fun kv => if kv.1 = k then (kv.1, w) else kv)
  | [], _, h => by cases h; exact .nil
  | p :: ks, _, h => by
    cases h with
    | @cons _ q _ qs h1 t =>
      rw [List.map_cons, List.map_cons]
      refine .cons ?_ (KVs.repl hy rz t)
      rw [keyE_eq h1.1.1 hy]
      by_cases c : q.1 = k
      · rw [decide_eq_true c, if_pos rfl, if_pos c]; exact ⟨h1.1, rz⟩
      · rw [decide_eq_false c, if_neg (by decide), if_neg c]; exact h1
theorem KVs.put {K : PySem.W.Frag} {ι : List Addr} {H : Hp} {y z : Val} {k : Key} {w : V} (hy : keyOf y = some k) (ry : VR K ι H y (kV k)) (rz : VR K ι H z w) {ks : List (Val × Val)} {ws : List (Key × V)} (h : KVs K ι H ks ws) : KVs K ι H (dicPut ks y z) (putK ws k w) := by
  unfold dicPut putK
  rw [KVs.any hy h]
  split
  · exact KVs.repl hy rz h
  · exact Paired.snoc h ⟨⟨hy, ry⟩, rz⟩
theorem KVs.len {K : PySem.W.Frag} {ι : List Addr} {H : Hp} {ks : List (Val × Val)} {ws : List (Key × V)} (h : KVs K ι H ks ws) : ks.length = ws.length := Paired.length h
theorem HR.dic_at {G : Gs} {ι : List Addr} {M : Store} {H : Hp} (hr : HR G ι M H) {n : Nat} {a : Addr} {kvs : List (Val × Val)} (e : M[n]? = some (.dic kvs)) (ea : ι[n]? = some a) : ∃ ws, H a = some (.dK ws) ∧ KVs G.K ι H kvs ws := hr.obj n _ a e ea
/-- a dict of ours is changed -/
theorem HR.setD {G : Gs} {ι : List Addr} {M : Store} {H : Hp} (h : HR G ι M H) {n : Nat} {ks ls : List (Val × Val)} {vs ws : List (Key × V)} {a : Addr} (e : M[n]? = some (.dic ks)) (ea : ι[n]? = some a) (ha : H a = some (.dK vs)) (r : KVs G.K ι H ls ws) :
    HR G ι (M.set n (.dic ls)) (upd H a (.dK ws)) ∧ Le ι H ι (upd H a (.dK ws)) := by
  have l : Le ι H ι (upd H a (.dK ws)) := Le.set (mut_dK ha) (List.mem_of_getElem? ea)
  have hn : n < M.length := (List.getElem?_eq_some_iff.mp e).1
  refine ⟨⟨by simp [h.len], fun m u b e1 e2 => ?_, h.inj⟩, l⟩
  by_cases hm : n = m
  · subst hm
    rw [List.getElem?_set_self hn] at e1
    cases e1
    rw [ea] at e2; cases e2
    exact ⟨ws, upd_same, r.mono l⟩
  · rw [List.getElem?_set_ne hm] at e1
    refine (h.obj m u b e1 e2).stay l fun v q => ?_
    rw [upd_ne (fun z => hm (by
      obtain ⟨h1, e3⟩ := List.getElem?_eq_some_iff.mp ea
      obtain ⟨h2, e4⟩ := List.getElem?_eq_some_iff.mp e2
      exact (List.getElem_inj h.inj).mp (e3.trans (z.symm.trans e4.symm))))]
    exact q
section
variable {X : Cx}
/-- d[y] by values -/
theorem ix_dict (hu : X.A.units + 1 < cLine) : IxR X (fun x y H Q => ∃ a v, x = .ref a ∧ DGet H a y (some v) ∧ Q v H) := by
  intro value slice pins s σ H x y v u Q I rx ry h hs
  obtain ⟨a, w, rfl, g, q⟩ := h
  obtain rfl : v = Value.ref a := rx
  exact PyProof.Rows.tail_any (dict_typeIs I g) PySem.F.slot_dict_getitem.lookup (d_getItem hu I g ry fun w' s' I' rw' => ⟨w, H, I', rw', q⟩) hs
end

/-! ### dicts by tuple keys -/
theorem keys_ok {K : PySem.W.Frag} {ι : List Addr} {H : Hp} : ∀ {xs : List Val} {vs : List V}, VRs K ι H xs vs → xs.all keyV = true → ∃ ks, vs = ks.map kV ∧ KTs K ι H xs ks
  | [], _, .nil, _ => ⟨[], rfl, .nil⟩
  | x :: xs, _, .cons r t, h => by
    rw [List.all_cons, Bool.and_eq_true] at h
    obtain ⟨k, hk, rfl⟩ := key_ok r h.1
    obtain ⟨ks, rfl, ht⟩ := keys_ok t h.2
    exact ⟨k :: ks, rfl, .cons ⟨hk, r⟩ ht⟩
theorem keysE_eq {K : PySem.W.Frag} {ι : List Addr} {H : Hp} : ∀ {xs ys : List Val} {ks ls : List Key}, KTs K ι H xs ks → KTs K ι H ys ls → keysE xs ys = decide (ks = ls)
  | [], [], _, _, .nil, .nil => rfl
  | [], _ :: _, _, _, .nil, .cons _ _ => rfl
  | _ :: _, [], _, _, .cons _ _, .nil => rfl
  | x :: xs, y :: ys, _, _, .cons (b := k) (l₂ := ks) a t, .cons (b := l) (l₂ := ls) a' t' => by
    show (keyE x y && keysE xs ys) = _
    rw [keyE_eq a.1 a'.1, keysE_eq t t']
    by_cases e : k = l
    · subst e
      by_cases e2 : ks = ls
      · subst e2; simp
      · simp [e2]
    · simp [e]
theorem TVs.get {K : PySem.W.Frag} {ι : List Addr} {H : Hp} {ys : List Val} {k : List Key} (hy : KTs K ι H ys k) : ∀ {ks : List (List Val × Val)} {ws : List (List Key × V)}, TVs K ι H ks ws → ∀ {v : Val}, ditGet ks ys = some v → ∃ w, valV ws k = some w ∧ VR K ι H v w
  | [], _, h, v, e => by simp [ditGet] at e
  | p :: ks, _, h, v, e => by
    cases h with
    | @cons _ q _ qs h1 t =>
      have ek := keysE_eq h1.1 hy
      unfold ditGet at e
      by_cases c : q.1 = k
      · rw [List.find?_cons, ek, decide_eq_true c] at e
        simp only [Option.map_some, Option.some.injEq] at e
        subst e
        exact ⟨q.2, valV_pos c, h1.2⟩
      · rw [List.find?_cons, ek, decide_eq_false c] at e
        rw [valV_neg c]
        exact TVs.get hy t (v := v) (by unfold ditGet; exact e)
theorem TVs.any {K : PySem.W.Frag} {ι : List Addr} {H : Hp} {ys : List Val} {k : List Key} (hy : KTs K ι H ys k) : ∀ {ks : List (List Val × Val)} {ws : List (List Key × V)}, TVs K ι H ks ws → (ks.any fun p => keysE p.1 ys) = ws.any fun q => decide (q.1 = k)
  | [], _, h => by cases h; rfl
  | p :: ks, _, h => by
    cases h with
    | @cons _ q _ qs h1 t =>
      rw [List.any_cons, List.any_cons, keysE_eq h1.1 hy, TVs.any hy t]
theorem TVs.repl {K : PySem.W.Frag} {ι : List Addr} {H : Hp} {ys : List Val} {z : Val} {k : List Key} {w : V} (hy : KTs K ι H ys k) (rz : VR K ι H z w) : ∀ {ks : List (List Val × Val)} {ws : List (List Key × V)}, TVs K ι H ks ws → TVs K ι H (ks.map fun p => if keysE p.1 ys = true then (p.1, z) else p) (ws.map fun kv => if kv.1 = k then (kv.1, w) else kv)
  | [], _, h => by cases h; exact .nil
  | p :: ks, _, h => by
    cases h with
    | @cons _ q _ qs h1 t =>
      rw [List.map_cons, List.map_cons]
      refine .cons ?_ (TVs.repl hy rz t)
      rw [keysE_eq h1.1 hy]
      by_cases c : q.1 = k
      · rw [decide_eq_true c, if_pos rfl, if_pos c]; exact ⟨h1.1, rz⟩
      · rw [decide_eq_false c, if_neg (by decide), if_neg c]; exact h1
theorem TVs.put {K : PySem.W.Frag} {ι : List Addr} {H : Hp} {ys : List Val} {z : Val} {k : List Key} {w : V} (hy : KTs K ι H ys k) (rz : VR K ι H z w) {ks : List (List Val × Val)} {ws : List (List Key × V)} (h : TVs K ι H ks ws) : TVs K ι H (ditPut ks ys z) (putK ws k w) := by
  unfold ditPut putK
  rw [TVs.any hy h]
  split
  · exact TVs.repl hy rz h
  · exact Paired.snoc h ⟨hy, rz⟩
theorem TVs.len {K : PySem.W.Frag} {ι : List Addr} {H : Hp} {ks : List (List Val × Val)} {ws : List (List Key × V)} (h : TVs K ι H ks ws) : ks.length = ws.length := Paired.length h
theorem HR.dit_at {G : Gs} {ι : List Addr} {M : Store} {H : Hp} (hr : HR G ι M H) {n : Nat} {a : Addr} {kvs : List (List Val × Val)} (e : M[n]? = some (.dit kvs)) (ea : ι[n]? = some a) : ∃ ws, H a = some (.dT ws) ∧ TVs G.K ι H kvs ws := hr.obj n _ a e ea
/-- a dict of ours is changed, to one by tuple keys -/
theorem HR.setT {G : Gs} {ι : List Addr} {M : Store} {H : Hp} (h : HR G ι M H) {n : Nat} {ls : List (List Val × Val)} {ws : List (List Key × V)} {o : Obj} {a : Addr} (e : M[n]? = some o) (ea : ι[n]? = some a) (ha : L2.Mut (H a)) (r : TVs G.K ι H ls ws) :
    HR G ι (M.set n (.dit ls)) (upd H a (.dT ws)) ∧ Le ι H ι (upd H a (.dT ws)) := by
  have l : Le ι H ι (upd H a (.dT ws)) := Le.set ha (List.mem_of_getElem? ea)
  have hn : n < M.length := (List.getElem?_eq_some_iff.mp e).1
  refine ⟨⟨by simp [h.len], fun m u b e1 e2 => ?_, h.inj⟩, l⟩
  by_cases hm : n = m
  · subst hm
    rw [List.getElem?_set_self hn] at e1
    cases e1
    rw [ea] at e2; cases e2
    exact ⟨ws, upd_same, r.mono l⟩
  · rw [List.getElem?_set_ne hm] at e1
    refine (h.obj m u b e1 e2).stay l fun v q => ?_
    rw [upd_ne (fun z => hm (by
      obtain ⟨h1, e3⟩ := List.getElem?_eq_some_iff.mp ea
      obtain ⟨h2, e4⟩ := List.getElem?_eq_some_iff.mp e2
      exact (List.getElem_inj h.inj).mp (e3.trans (z.symm.trans e4.symm))))]
    exact q
section
variable {X : Cx} {pins : List (Addr × PySem.Obj)} {σ : L2.St} {H : Hp} {s : Shared} {a : Addr} {y v : V} {u r : Value} {o : Option V} {A : Around} {E : Value → Shared → Prop}
theorem key_ofS (I : Inv X pins σ H s) {b : Addr} {k : List Key} (e : SqT X.K H b (k.map kV)) : (tupleKind (mixKind X.prog X.w)).is s.heap k b := by
  obtain ⟨its, r, ⟨o, h1, h2, n, h3⟩, _⟩ := I.tuple e
  exact ⟨o, its.toArray, n, h1, h2, h3, by simpa using items_are r⟩
def DGetS (K : PySem.W.Frag) (H : Hp) (a : Addr) (y : V) (r : Option V) : Prop := ∃ kvs k b, Rd H a (.dT kvs) ∧ y = .ref b ∧ SqT K H b (k.map kV) ∧ r = valV kvs k
theorem d_getItemS {Q : Value → Shared → Prop} (hu : A.units + 1 < cLine) (I : Inv X pins σ H s) (g : DGetS X.K H a y (some v)) (ry : RelV y u) (h : ∀ w' s', Inv X pins σ H s' → RelV v w' → Q w' s') :
    wpAny (model X.prog X.w) A (getItem (.ref a) u) Q E s := by
  obtain ⟨kvs, k, b, e, ey, eb, l⟩ := g
  subst ey
  cases (show u = Value.ref b from ry)
  obtain ⟨z, hd, xs, rel, dd⟩ := dt_rd I.hok e
  obtain ⟨w', hw, rw'⟩ := RelO.some_of (v := v) (o := (atKey xs k).map (·.2)) (by rw [l]; exact rel.val k)
  obtain ⟨p, hp, hp2⟩ := Option.map_eq_some_iff.mp hw
  refine wpAny_getItem_heap (tupleKind_room_in1 hu) (key_ofS I eb) dd hp ?_
  rw [hp2]
  exact h w' _ (I.tok _) rw'
theorem dictS_typeIs (I : Inv X pins σ H s) (g : DGetS X.K H a y o) : s.TypeIs (.ref a) "dict" := by
  obtain ⟨kvs, k, b, e, _, _, _⟩ := g
  obtain ⟨_, _, xs, _, dd⟩ := dt_rd I.hok e
  exact dd.typeIs
/-- d[t] by values, t any tuple of ints and texts -/
theorem ix_dictS (hu : X.A.units + 1 < cLine) : IxR X (fun x y H Q => ∃ a v, x = .ref a ∧ DGetS X.K H a y (some v) ∧ Q v H) := by
  intro value slice pins s σ H x y v u Q I rx ry h hs
  obtain ⟨a, w, rfl, g, q⟩ := h
  obtain rfl : v = Value.ref a := rx
  exact PyProof.Rows.tail_any (dictS_typeIs I g) PySem.F.slot_dict_getitem.lookup (d_getItemS hu I g ry fun w' s' I' rw' => ⟨w, H, I', rw', q⟩) hs
/-- an empty dict, as one by tuple keys -/
theorem Inv.retype (I : Inv X pins σ H s) (e : H a = some (.dK [])) : Inv X pins σ (upd H a (.dT [])) s := by
  obtain ⟨z, hd, vs, rel, o, es, ep, h1, h2, h3, h4, h5, h6⟩ := dk_of I.hok e
  cases rel
  have hes : es.toList = [] := List.length_eq_zero_iff.mp (by have := PySem.Pairs.length h5; simpa using this)
  have := I.write (x := a) (e := a) (o := .dT []) (h' := s.heap) (t' := s.toks) (by rw [e]; exact True.intro) (.inl rfl) (fun b q hb z => z) ⟨o, h1⟩ ⟨Nat.zero_le _, hd, [], .nil, o, es, ep, h1, h2, h3, hes, List.nodup_nil⟩
  exact this
theorem Inv.retypeK (I : Inv X pins σ H s) (e : H a = some (.dT [])) : Inv X pins σ (upd H a (.dK [])) s := by
  obtain ⟨z, hd, xs, rel, o, es, ep, h1, h2, h3, h4, h5, h6⟩ := dt_of I.hok e
  cases rel
  have hes : es = #[] := by
    have : es.toList = [] := h4
    exact Array.toList_eq_nil_iff.mp this
  subst hes
  have := I.write (x := a) (e := a) (o := .dK []) (h' := s.heap) (t' := s.toks) (by rw [e]; exact True.intro) (.inl rfl) (fun b q hb z => z) ⟨o, h1⟩ ⟨Nat.zero_le _, hd, [], .nil, o, #[], ep, h1, h2, h3, fun _ he => by simp at he, PySem.Pairs.nil, List.nodup_nil⟩
  exact this
/-- o[t] = v: the first key of an empty dict, or one more -/
def rSetT : TSet := fun o i v H Q => ∃ a b kvs k, o = .ref a ∧ i = .ref b ∧ (H a = some (.dT kvs) ∨ H a = some (.dK []) ∧ kvs = []) ∧ H b = some (.tup (k.map kV)) ∧ kvs.length < sizeLine ∧ Q (upd H a (.dT (putK kvs k v)))
theorem set_dictT (hu : X.A.units + 1 < cLine) : PSet X rSetT := by
  intro pins s σ H o i v ov iv u Q I ro ri rv h
  obtain ⟨a, b, kvs, k, rfl, rfl, hd, hb, hl, q⟩ := h
  rcases hd with hd | ⟨hd, rfl⟩
  · exact set_dict hu pins s σ H _ _ v ov iv u Q I ro ri rv ⟨a, _, rfl, DPut.t hd hb hl, q⟩
  · have hab : b ≠ a := fun z => by rw [z, hd] at hb; cases hb
    refine set_dict hu pins s σ (upd H a (.dT [])) _ _ v ov iv u Q (Inv.retype I hd) ro ri rv ⟨a, _, rfl, DPut.t (kvs := []) upd_same (by rw [upd_ne hab]; exact hb) hl, ?_⟩
    rw [upd_upd]
    exact q
end
end Mi
end MiDicS

section MiRun2S
set_option Elab.async false
set_option linter.all false
set_option maxRecDepth 100000
namespace Mi
open PySem L2
section
variable {X : Cx} {G : Gs} {W : WX} {cf : Cf} {ct : Ct} {lv : Nat}

/-! ### chains, and, or, not -/
theorem chain_read {σ : L2.St} {H : Hp} {Q : VK} {ma mb mc : E} {o p : Cmp} (q : tE G W cf (.chain o p ma mb mc) σ H Q) :
    tChain (rCmp G o) (rCmp G p) (tE G W cf ma) (tE G W cf mb) (tE G W cf mc) σ H Q := by
  obtain ⟨ι, τ, M, hs, hr, q⟩ := q
  unfold ev at q
  refine ⟨ι, τ, M, hs, hr, q.bind fun x M1 ι1 H1 v _ l1 hr1 r1 q1 => ?_⟩
  refine ⟨ι1, τ, M1, hs.mono l1, hr1, q1.bind fun y M2 ι2 H2 w _ l2 hr2 r2 q2 => ?_⟩
  cases e : cmpV o x y M2 with
  | none => rw [e] at q2; exact q2.elim
  | some k =>
    rw [e] at q2
    refine ⟨ι2, M2, x, y, k, hr2, r1.mono l2, r2, e, k, rfl, ?_⟩
    simp only [ofOpt, Res.bind_ok] at q2
    cases k with
    | false =>
      simp only [Bool.false_eq_true, if_false] at q2 ⊢
      exact q2.here hr2 (.bl false)
    | true =>
      simp only [if_true] at q2 ⊢
      refine ⟨ι2, τ, M2, (hs.mono l1).mono l2, hr2, q2.bind fun z M3 ι3 H3 u _ l3 hr3 r3 q3 => ?_⟩
      obtain ⟨t, e1, q4⟩ := q3.opt
      obtain ⟨k2, e2, rfl⟩ := Option.map_eq_some_iff.mp e1
      exact ⟨ι3, M3, y, z, k2, hr3, r2.mono l3, r3, e2, q4.here hr3 (.bl k2)⟩
def notSets (b c : Expr) : Bool := notSet b && notSet c
theorem marks2 {o p : CmpOp} {b c : Expr} (h : notSet c = true) : lastMarks [o, p] [b, c] = false := by
  show lastMarks [p] [c] = false
  exact notSet_ok h
theorem e_chain (g : Good X G W cf ct lv) {a b c : Expr} {ma mb mc : E} {o p : Cmp} {pos : Pos} (ha : PE X a (tE G W cf ma)) (hb : PE X b (tE G W cf mb)) (hc : PE X c (tE G W cf mc)) (hn : notSet c = true) :
    PE X (.Compare a [cop o, cop p] [b, c] pos) (tE G W cf (.chain o p ma mb mc)) :=
  (pe_chain (cmp_run g.gk (by have := g.room.un; omega) o) (cmp_run g.gk (by have := g.room.un; omega) p) ha hb hc (marks2 hn)).imp fun σ H Q q => chain_read q
theorem chain_bool {ma mb mc : E} {o p : Cmp} {τ : St} {M M1 : Store} {x : Val} (e1 : ev cf (.chain o p ma mb mc) τ M = .ok x M1) : ∃ b, x = .bl b := by
  unfold ev at e1
  cases h1 : ev cf ma τ M with
  | ok x1 M2 =>
    rw [h1] at e1
    simp only [Res.bind_ok] at e1
    cases h2 : ev cf mb τ M2 with
    | ok x2 M3 =>
      rw [h2] at e1
      simp only [Res.bind_ok] at e1
      cases h3 : cmpV o x1 x2 M3 with
      | none => rw [h3] at e1; cases e1
      | some b =>
        rw [h3] at e1
        simp only [ofOpt, Res.bind_ok] at e1
        cases b with
        | false => simp only [Bool.false_eq_true, if_false] at e1; cases e1; exact ⟨_, rfl⟩
        | true =>
          simp only [if_true] at e1
          cases h4 : ev cf mc τ M3 with
          | ok x3 M4 =>
            rw [h4] at e1
            simp only [Res.bind_ok] at e1
            cases h5 : cmpV p x2 x3 M4 with
            | none => rw [h5] at e1; cases e1
            | some b => rw [h5] at e1; cases e1; exact ⟨b, rfl⟩
          | exc => rw [h4] at e1; cases e1
          | bad => rw [h4] at e1; cases e1
    | exc => rw [h2] at e1; cases e1
    | bad => rw [h2] at e1; cases e1
  | exc => rw [h1] at e1; cases e1
  | bad => rw [h1] at e1; cases e1
/-- a run that gives a bool, as a test -/
theorem test_read {σ : L2.St} {H : Hp} {Q : Bool → Hp → Prop} {m : E} (hb : ∀ τ M x M1, ev cf m τ M = .ok x M1 → ∃ b, x = .bl b) (q : tT G W cf m σ H Q) : tE G W cf m σ H fun x H' => ∃ k, x = .bl k ∧ Q k H' := by
  obtain ⟨ι, τ, M, hs, hr, q⟩ := q
  refine ⟨ι, τ, M, hs, hr, q.bind fun x M1 ι1 H1 v e1 l1 hr1 r1 q1 => ?_⟩
  obtain ⟨k, e, q2⟩ := q1.opt
  obtain ⟨b, rfl⟩ := hb _ _ _ _ e1
  cases r1
  cases e
  exact ⟨_, rfl, q2.here hr1 rfl⟩
theorem t_chain (g : Good X G W cf ct lv) {a b c : Expr} {ma mb mc : E} {o p : Cmp} {pos : Pos} (ha : PE X a (tE G W cf ma)) (hb : PE X b (tE G W cf mb)) (hc : PE X c (tE G W cf mc)) (hn : notSet c = true) :
    PT X (.Compare a [cop o, cop p] [b, c] pos) (tT G W cf (.chain o p ma mb mc)) :=
  (pt_chain (cmp_run g.gk (by have := g.room.un; omega) o) (cmp_run g.gk (by have := g.room.un; omega) p) ha hb hc (marks2 hn)).imp fun σ H Q q => chain_read (test_read (fun _ _ _ _ => chain_bool) q)
theorem e_neg (g : Good X G W cf ct lv) {a : Expr} {ma : E} {pos : Pos} (ha : PE X a (tE G W cf ma)) : PE X (.UnaryOp .USub a pos) (tE G W cf (.neg ma)) := by
  refine (pe_un un_neg ha).imp fun σ H Q q => ?_
  obtain ⟨ι, τ, M, hs, hr, q⟩ := q
  unfold ev at q
  refine ⟨ι, τ, M, hs, hr, q.bind fun x M1 ι1 H1 v _ l1 hr1 r1 q1 => ?_⟩
  split at q1
  · cases r1
    exact ⟨_, rfl, q1.here hr1 (.int _)⟩
  · exact q1.elim
theorem e_not (g : Good X G W cf ct lv) {a : Expr} {ma : E} {pos : Pos} (ha : PE X a (tE G W cf ma)) : PE X (.UnaryOp .Not a pos) (tE G W cf (.not ma)) := by
  refine (pe_notT ha).imp fun σ H Q q => ?_
  obtain ⟨ι, τ, M, hs, hr, q⟩ := q
  unfold ev at q
  refine ⟨ι, τ, M, hs, hr, q.bind fun x M1 ι1 H1 v _ l1 hr1 r1 q1 => ?_⟩
  cases e : truth M1 x with
  | none => rw [e] at q1; exact q1.elim
  | some k =>
    rw [e] at q1
    refine ⟨k, ?_, Post.here (M := M1) (show Post G W σ ι1 H1 (RV G) Q (.ok (.bl (!k)) M1) from q1) hr1 (.bl _)⟩
    rw [← g.gk]
    exact truth_ok hr1 r1 e
theorem t_not (g : Good X G W cf ct lv) {a : Expr} {ma : E} {pos : Pos} (ha : PT X a (tT G W cf ma)) : PT X (.UnaryOp .Not a pos) (tT G W cf (.not ma)) := by
  refine (pt_not ha).imp fun σ H Q q => ?_
  obtain ⟨ι, τ, M, hs, hr, q⟩ := q
  refine ⟨ι, τ, M, hs, hr, ?_⟩
  unfold ev at q
  cases h : ev cf ma τ M with
  | ok x M1 =>
    rw [h] at q
    simp only [Res.bind_ok] at q ⊢
    cases e : truth M1 x with
    | none => rw [e] at q; exact q.elim
    | some k =>
      rw [e] at q
      intro ι' H' b l hr' rr
      obtain rfl : b = k := rr
      exact q ι' H' (!b) l hr' rfl
  | exc x M1 => rw [h] at q; exact q
  | bad => rw [h] at q; exact q
theorem e_and (g : Good X G W cf ct lv) {a b : Expr} {rest : List Expr} {ma mb : E} {pos : Pos} (ha : PE X a (tE G W cf ma)) (hb : PE X (.BoolOp .And (b :: rest) pos) (tE G W cf mb)) : PE X (.BoolOp .And (a :: b :: rest) pos) (tE G W cf (.and ma mb)) := by
  refine (pe_andT ha hb).imp fun σ H Q q => ?_
  obtain ⟨ι, τ, M, hs, hr, q⟩ := q
  unfold ev at q
  refine ⟨ι, τ, M, hs, hr, q.bind fun x M1 ι1 H1 v _ l1 hr1 r1 q1 => ?_⟩
  cases e : truth M1 x with
  | none => rw [e] at q1; exact q1.elim
  | some k =>
    rw [e] at q1
    simp only [ofOpt, Res.bind_ok] at q1
    refine ⟨k, by rw [← g.gk]; exact truth_ok hr1 r1 e, ?_⟩
    cases k with
    | true => simp only [if_true] at q1 ⊢; exact ⟨ι1, τ, M1, hs.mono l1, hr1, q1⟩
    | false => simp only [Bool.false_eq_true, if_false] at q1 ⊢; exact q1.here hr1 r1
theorem e_or (g : Good X G W cf ct lv) {a b : Expr} {rest : List Expr} {ma mb : E} {pos : Pos} (ha : PE X a (tE G W cf ma)) (hb : PE X (.BoolOp .Or (b :: rest) pos) (tE G W cf mb)) : PE X (.BoolOp .Or (a :: b :: rest) pos) (tE G W cf (.or ma mb)) := by
  refine (pe_orT ha hb).imp fun σ H Q q => ?_
  obtain ⟨ι, τ, M, hs, hr, q⟩ := q
  unfold ev at q
  refine ⟨ι, τ, M, hs, hr, q.bind fun x M1 ι1 H1 v _ l1 hr1 r1 q1 => ?_⟩
  cases e : truth M1 x with
  | none => rw [e] at q1; exact q1.elim
  | some k =>
    rw [e] at q1
    simp only [ofOpt, Res.bind_ok] at q1
    refine ⟨k, by rw [← g.gk]; exact truth_ok hr1 r1 e, ?_⟩
    cases k with
    | false => simp only [Bool.false_eq_true, if_false] at q1 ⊢; exact ⟨ι1, τ, M1, hs.mono l1, hr1, q1⟩
    | true => simp only [if_true] at q1 ⊢; exact q1.here hr1 r1
theorem and_test {ma mb : E} {τ : St} {M : Store} : ((ev cf (.and ma mb) τ M).bind fun x M1 => ofOpt (truth M1 x) M1) =
    ((ev cf ma τ M).bind fun x M1 => ofOpt (truth M1 x) M1).bind fun k M2 => if k = true then (ev cf mb τ M2).bind fun x M1 => ofOpt (truth M1 x) M1 else .ok false M2 := by
  conv => lhs; unfold ev
  cases h : ev cf ma τ M with
  | ok x M1 =>
    simp only [Res.bind_ok]
    cases e : truth M1 x with
    | none => rfl
    | some k =>
      cases k with
      | true => rfl
      | false => simp [ofOpt, e]
  | exc x M1 => rfl
  | bad => rfl
theorem or_test {ma mb : E} {τ : St} {M : Store} : ((ev cf (.or ma mb) τ M).bind fun x M1 => ofOpt (truth M1 x) M1) =
    ((ev cf ma τ M).bind fun x M1 => ofOpt (truth M1 x) M1).bind fun k M2 => if k = true then .ok true M2 else (ev cf mb τ M2).bind fun x M1 => ofOpt (truth M1 x) M1 := by
  conv => lhs; unfold ev
  cases h : ev cf ma τ M with
  | ok x M1 =>
    simp only [Res.bind_ok]
    cases e : truth M1 x with
    | none => rfl
    | some k =>
      cases k with
      | false => rfl
      | true => simp [ofOpt, e]
  | exc x M1 => rfl
  | bad => rfl
theorem _root_.L2.PW.imp {X : Cx} {e : Expr} {t t' : TT} (h : PW X e t) (i : ∀ σ H Q, t' σ H Q → t σ H Q) : PW X e t' := ⟨fun wh ps s σ H Q J q => h.run wh ps s σ H Q J (i σ H Q q)⟩
theorem t_and (g : Good X G W cf ct lv) {a b : Expr} {rest : List Expr} {ma mb : E} {pos : Pos} (ha : PT X a (tT G W cf ma)) (hb : PW X (.BoolOp .And (b :: rest) pos) (tT G W cf mb)) : PW X (.BoolOp .And (a :: b :: rest) pos) (tT G W cf (.and ma mb)) := by
  refine (pw_and ha hb).imp fun σ H Q q => ?_
  obtain ⟨ι, τ, M, hs, hr, q⟩ := q
  rw [and_test] at q
  refine ⟨ι, τ, M, hs, hr, q.bind fun k M1 ι1 H1 c _ l1 hr1 r1 q1 => ?_⟩
  obtain rfl : c = k := r1
  cases c with
  | true => simp only [if_true] at q1 ⊢; exact ⟨ι1, τ, M1, hs.mono l1, hr1, q1⟩
  | false => simp only [Bool.false_eq_true, if_false] at q1 ⊢; exact q1.here hr1 rfl
theorem t_or (g : Good X G W cf ct lv) {a b : Expr} {rest : List Expr} {ma mb : E} {pos : Pos} (ha : PT X a (tT G W cf ma)) (hb : PW X (.BoolOp .Or (b :: rest) pos) (tT G W cf mb)) : PW X (.BoolOp .Or (a :: b :: rest) pos) (tT G W cf (.or ma mb)) := by
  refine (pw_or ha hb).imp fun σ H Q q => ?_
  obtain ⟨ι, τ, M, hs, hr, q⟩ := q
  rw [or_test] at q
  refine ⟨ι, τ, M, hs, hr, q.bind fun k M1 ι1 H1 c _ l1 hr1 r1 q1 => ?_⟩
  obtain rfl : c = k := r1
  cases c with
  | false => simp only [Bool.false_eq_true, if_false] at q1 ⊢; exact ⟨ι1, τ, M1, hs.mono l1, hr1, q1⟩
  | true => simp only [if_true] at q1 ⊢; exact q1.here hr1 rfl
theorem e_ite (g : Good X G W cf ct lv) {c a b : Expr} {mc ma mb : E} {pos : Pos} (hc : PT X c (tT G W cf mc)) (ha : PE X a (tE G W cf ma)) (hb : PE X b (tE G W cf mb)) : PE X (.IfExp c a b pos) (tE G W cf (.ite mc ma mb)) := by
  refine (pe_ifExp hc ha hb).imp fun σ H Q q => ?_
  obtain ⟨ι, τ, M, hs, hr, q⟩ := q
  have e : ev cf (.ite mc ma mb) τ M = ((ev cf mc τ M).bind fun x M1 => ofOpt (truth M1 x) M1).bind fun k M2 => if k = true then ev cf ma τ M2 else ev cf mb τ M2 := by
    conv => lhs; unfold ev
    cases h : ev cf mc τ M <;> rfl
  rw [e] at q
  refine ⟨ι, τ, M, hs, hr, q.bind fun k M1 ι1 H1 c _ l1 hr1 r1 q1 => ?_⟩
  obtain rfl : c = k := r1
  cases c with
  | false => simp only [Bool.false_eq_true, if_false] at q1 ⊢; exact ⟨ι1, τ, M1, hs.mono l1, hr1, q1⟩
  | true => simp only [if_true] at q1 ⊢; exact ⟨ι1, τ, M1, hs.mono l1, hr1, q1⟩

/-! ### lists of expressions, tuples, lists -/
theorem es_nil : PA X [] (tEs G W cf .nil) := by
  refine pa_nil.imp fun σ H Q q => ?_
  obtain ⟨ι, τ, M, hs, hr, q⟩ := q
  exact q.here hr .nil
theorem es_cons {e : Expr} {es : List Expr} {m : E} {ms : Es} (he : PE X e (tE G W cf m)) (hes : PA X es (tEs G W cf ms)) (hn : notStar e = true) : PA X (e :: es) (tEs G W cf (.cons m ms)) := by
  refine (pa_cons he hes (star_ok hn)).imp fun σ H Q q => ?_
  obtain ⟨ι, τ, M, hs, hr, q⟩ := q
  unfold evs at q
  refine ⟨ι, τ, M, hs, hr, q.bind fun x M1 ι1 H1 v _ l1 hr1 r1 q1 => ?_⟩
  refine ⟨ι1, τ, M1, hs.mono l1, hr1, q1.bind fun xs M2 ι2 H2 vs _ l2 hr2 r2 q2 => ?_⟩
  exact q2.here hr2 (.cons (r1.mono l2) r2)
theorem e_tup {es : List Expr} {ms : Es} {k : Nat} {pos : Pos} (h : PA X es (tEs G W cf ms)) : PE X (.Tuple es k pos) (tE G W cf (.tup ms)) := by
  refine (pe_tup h).imp fun σ H Q q => ?_
  obtain ⟨ι, τ, M, hs, hr, q⟩ := q
  unfold ev at q
  refine ⟨ι, τ, M, hs, hr, q.bind fun xs M1 ι1 H1 vs _ l1 hr1 r1 q1 => ?_⟩
  split at q1
  · rename_i c
    refine ⟨by rw [← r1.length, ← lim_eq]; exact c, fun p hp => ?_⟩
    exact q1 ι1 _ _ (Le.new hp) (hr1.new hp) (vr_tup_new hp r1)
  · exact q1.elim
theorem l_disp {es : List Expr} {ms : Es} {pos : Pos} (h : PA X es (tEs G W cf ms)) : PE X (.List es pos) (tL G W cf (.disp ms)) := by
  refine (pe_lst h).imp fun σ H Q q => ?_
  obtain ⟨ι, τ, M, hs, hr, q⟩ := q
  unfold evL at q
  refine ⟨ι, τ, M, hs, hr, Post.bindL q fun xs M1 ι1 H1 vs _ l1 hr1 r1 q1 => ?_⟩
  split at q1
  · rename_i c
    exact ⟨by rw [← r1.length, ← lim_eq]; exact c, fun p hp => q1.make hr1 r1 hp⟩
  · exact q1.elim
/-- a fresh list becomes ours -/
theorem Post.lay {σ : L2.St} {ι : List Addr} {H : Hp} {Q : VK} {r : Res (List Val)} (h : Post G W σ ι H (RV G) Q (r.bind fun xs M1 => .ok (.ref M1.length) (M1 ++ [.lst xs]))) : PostL G W σ ι H Q r := by
  cases r with
  | ok xs M1 =>
    rintro ι1 H1 v l hr ⟨D, vs, rfl, hD, rv, np, h0⟩
    have l2 : Le ι H (ι1 ++ [D]) H1 := by
      obtain ⟨t, e, ft⟩ := l.more
      refine ⟨⟨t ++ [D], by rw [e]; simp, fun a ha => ?_⟩, l.ext, l.dom, l.keep⟩
      rcases List.mem_append.mp ha with ha | ha
      · exact ft a ha
      · simp at ha; rw [ha]; exact h0
    refine h (ι1 ++ [D]) H1 (.ref D) l2 (hr.mine np ⟨vs, hD, rv.more⟩) (.ref ?_)
    rw [← hr.len]; simp
  | exc x M => exact h
  | bad => exact h
theorem e_lst {e : Expr} {l : L} (h : PE X e (tL G W cf l)) : PE X e (tE G W cf (.lst l)) := by
  refine h.imp fun σ H Q q => ?_
  obtain ⟨ι, τ, M, hs, hr, q⟩ := q
  unfold ev at q
  exact ⟨ι, τ, M, hs, hr, q.lay⟩

/-! ### items, slices -/
theorem place_eq (n : Nat) (i : Int) : place n i = ixN n i := rfl
theorem itemAt_ok {K : PySem.W.Frag} {ι : List Addr} {H : Hp} {xs : List Val} {vs : List V} {k : Int} {z : Val} (r : VRs K ι H xs vs) (e : itemAt xs k = some z) : ∃ w, atI vs k = some w ∧ VR K ι H z w := by
  unfold itemAt at e
  obtain ⟨j, h1, h2⟩ := Option.bind_eq_some_iff.mp e
  obtain ⟨w, h3, h4⟩ := r.get h2
  refine ⟨w, ?_, h4⟩
  unfold atI
  rw [place_eq, r.length] at h1
  rw [h1]; exact h3
theorem okS_one {s : List Nat} (h : okS s) {c : Nat} (hc : c ∈ s) : okS [c] := ⟨by rw [lim_val]; simp, fun d hd => by simp at hd; subst hd; exact h.2 _ hc⟩
theorem itemAt_mem {α : Type} {xs : List α} {k : Int} {z : α} (e : itemAt xs k = some z) : z ∈ xs := by
  unfold itemAt at e
  obtain ⟨j, h1, h2⟩ := Option.bind_eq_some_iff.mp e
  exact List.mem_of_getElem? h2
def rIxM (G : Gs) : R2 := fun x y H Q => ∃ ι M a b c, HR G ι M H ∧ VR G.K ι H a x ∧ VR G.K ι H b y ∧ ixV a b M = some c ∧ ∀ w, VR G.K ι H c w → Q w H
theorem ix_run (gk : G.K = X.K) (hu : X.A.units + 1 < cLine) : IxR X (rIxM G) := by
  obtain ⟨K, cl⟩ := G
  obtain rfl : K = X.K := gk
  rintro ve se ps s σ H x y v u Q I rx ry ⟨ι, M, a, b, c, hr, ra, rb, e, q⟩ hs
  unfold ixV at e
  split at e
  · cases ra with
    | str z hz =>
      cases rb
      obtain ⟨d, e1, rfl⟩ := Option.map_eq_some_iff.mp e
      refine ix_str ve se ps s σ H _ _ v u Q I rx ry ⟨_, _, d, rfl, rfl, hz.len, ?_, ?_⟩ hs
      · rw [toS_list]
        unfold itemAt at e1
        unfold atI
        exact e1
      · exact q _ (.str [d] (okS_one hz (itemAt_mem e1)))
  · cases ra with
    | tup hT r =>
      cases rb
      obtain ⟨w, e1, r1⟩ := itemAt_ok r e
      exact ix_tup ve se ps s σ H _ _ v u Q I rx ry ⟨_, _, _, w, rfl, rfl, hT, e1, q w r1⟩ hs
  · cases ra with
    | frz hT r =>
      cases rb
      obtain ⟨w, e1, r1⟩ := itemAt_ok r e
      exact ix_list ve se ps s σ H _ _ v u Q I rx ry ⟨_, _, _, w, rfl, rfl, hT.sq, e1, q w r1⟩ hs
  · cases ra with
    | ref ha =>
      split at e
      · rename_i em
        obtain ⟨vs, h1, h2⟩ := hr.sq_at em ha
        split at e
        · cases rb
          obtain ⟨w, e1, r1⟩ := itemAt_ok h2 e
          exact ix_list ve se ps s σ H _ _ v u Q I rx ry ⟨_, _, _, w, rfl, rfl, h1, e1, q w r1⟩ hs
        · cases e
      · rename_i em
        obtain ⟨ws, h1, h2⟩ := hr.dic_at em ha
        have hk : keyV b = true := by
          unfold dicGet at e
          obtain ⟨p, hp, _⟩ := Option.map_eq_some_iff.mp e
          have := List.find?_some hp
          exact keyE_V (x := p.1) this
        obtain ⟨k, hk1, rfl⟩ := key_ok rb hk
        obtain ⟨w, e1, r1⟩ := h2.get hk1 e
        refine ix_dict hu ve se ps s σ H _ _ v u Q I rx ry ⟨_, w, rfl, ?_, q w r1⟩ hs
        rw [← e1]
        exact DGet.k h1
      · rename_i em
        obtain ⟨ws, h1, h2⟩ := hr.dit_at em ha
        split at e
        · rename_i ks
          split at e
          · rename_i c
            cases rb with
            | tup hT rk =>
              obtain ⟨k, rfl, hk⟩ := keys_ok rk c
              obtain ⟨w, e1, r1⟩ := h2.get hk e
              refine ix_dictS hu ve se ps s σ H _ _ v u Q I rx ry ⟨_, w, rfl, ⟨ws, k, _, .inl h1, rfl, hT, ?_⟩, q w r1⟩ hs
              exact e1.symm
          · cases e
        · cases e
      · cases e
  · cases e
theorem e_ix (g : Good X G W cf ct lv) {a b : Expr} {ma mb : E} {pos : Pos} (ha : PE X a (tE G W cf ma)) (hb : PE X b (tE G W cf mb)) (hn : notSlice b = true) : PE X (.Subscript a b pos) (tE G W cf (.ix ma mb)) := by
  refine (pe_ix (ix_run g.gk g.hu1) ha hb (notSlice_ok hn)).imp fun σ H Q q => ?_
  obtain ⟨ι, τ, M, hs, hr, q⟩ := q
  unfold ev at q
  refine ⟨ι, τ, M, hs, hr, q.bind fun x M1 ι1 H1 v _ l1 hr1 r1 q1 => ?_⟩
  refine ⟨ι1, τ, M1, hs.mono l1, hr1, q1.bind fun y M2 ι2 H2 w _ l2 hr2 r2 q2 => ?_⟩
  obtain ⟨c, e, q3⟩ := q2.opt
  exact ⟨ι2, M2, x, y, c, hr2, r1.mono l2, r2, e, fun w rw => q3.here hr2 rw⟩
end
end Mi
end MiRun2S

section MiRun3S
set_option Elab.async false
set_option linter.all false
set_option maxRecDepth 100000
namespace Mi
open PySem L2
section
variable {X : Cx} {G : Gs} {W : WX} {cf : Cf} {ct : Ct} {lv : Nat}
/-- a fresh list stays while something else runs -/
theorem Fresh.stay {H0 : Hp} {ι ι' : List Addr} {H H' : Hp} {xs : List Val} {v : V} (f : Fresh G H0 ι H xs v) (l : Le ι H ι' H') : ∃ D vs, v = .ref D ∧ H' D = some (.lst vs) ∧ VRs G.K ι' H' xs vs := by
  obtain ⟨D, vs, rfl, hD, r, n, _⟩ := f
  exact ⟨D, vs, rfl, l.keep D _ hD n, r.mono l⟩
theorem e_ixl (g : Good X G W cf ct lv) {a b : Expr} {l : L} {mb : E} {pos : Pos} (ha : PE X a (tL G W cf l)) (hb : PE X b (tE G W cf mb)) (hn : notSlice b = true) : PE X (.Subscript a b pos) (tE G W cf (.ixl l mb)) := by
  refine (pe_ix ix_list ha hb (notSlice_ok hn)).imp fun σ H Q q => ?_
  obtain ⟨ι, τ, M, hs, hr, q⟩ := q
  unfold ev at q
  refine ⟨ι, τ, M, hs, hr, PostL.bind q fun xs M1 ι1 H1 v _ l1 hr1 r1 q1 => ?_⟩
  refine ⟨ι1, τ, M1, hs.mono l1, hr1, q1.bind fun y M2 ι2 H2 w _ l2 hr2 r2 q2 => ?_⟩
  obtain ⟨D, vs, rfl, hD, rv⟩ := r1.stay l2
  obtain ⟨c, e, q3⟩ := q2.opt
  obtain ⟨k, e1, e2⟩ := Option.bind_eq_some_iff.mp e
  unfold asInt at e1
  split at e1
  · cases e1
    cases r2
    obtain ⟨u, e3, ru⟩ := itemAt_ok rv e2
    exact ⟨D, vs, _, u, rfl, rfl, SqL.of hD, e3, q3.here hr2 ru⟩
  · cases e1

/-! ### slices -/
theorem o_none : PO X none (tEo G W cf .none) := by
  refine ⟨fun ps s σ H Q J q => po_none.run ps s σ H Q J ?_⟩
  obtain ⟨ι, τ, M, hs, hr, q⟩ := q
  exact q.here hr rfl
theorem o_some {e : Expr} {m : E} (h : PE X e (tE G W cf m)) : PO X (some e) (tEo G W cf (.some m)) := by
  refine ⟨fun ps s σ H Q J q => (po_some h).run ps s σ H Q J ?_⟩
  obtain ⟨ι, τ, M, hs, hr, q⟩ := q
  unfold evo at q
  refine ⟨ι, τ, M, hs, hr, q.bind fun x M1 ι1 H1 v _ l1 hr1 r1 q1 => ?_⟩
  split at q1
  · cases r1
    exact ⟨_, rfl, q1.here hr1 rfl⟩
  · exact q1.elim
theorem cutS_eq (s : List Nat) (lo hi : Option Int) : cutS (toS s) lo hi = toS (Mi.cut s lo hi) := by
  show Str.mk (((toS s).cps.toList.drop _).take _).toArray = _
  rw [toS_list]
  unfold toS Mi.cut
  have e : ∀ d o, HT.sIx (toS s).length d o = bound s.length d o := fun d o => by rw [toS_length]; cases o <;> rfl
  unfold toS at e
  rw [e, e]
  have e2 : (Str.mk s.toArray).length = s.length := by simp [Str.length]
  rw [e2]
theorem cut_sub {α : Type} {xs : List α} {lo hi : Option Int} : (Mi.cut xs lo hi).length ≤ xs.length ∧ ∀ c ∈ Mi.cut xs lo hi, c ∈ xs := by
  unfold Mi.cut
  refine ⟨by rw [List.length_take, List.length_drop]; omega, fun c hc => List.mem_of_mem_drop (List.mem_of_mem_take hc)⟩
theorem cut_whole {α : Type} {xs : List α} {lo hi : Option Int} (h1 : bound xs.length 0 lo = 0) (h2 : bound xs.length xs.length hi = xs.length) : Mi.cut xs lo hi = xs := by
  unfold Mi.cut
  rw [h1, h2]
  simp
theorem okS_cut {s : List Nat} (h : okS s) (lo hi : Option Int) : okS (Mi.cut s lo hi) := ⟨Nat.le_trans cut_sub.1 h.1, fun c hc => h.2 c (cut_sub.2 c hc)⟩
def rSlM (G : Gs) (W : WX) : V → Option Int → Option Int → Hp → VK → Prop := fun x lo hi H Q => ∃ σ ι M a, HR G ι M H ∧ VR G.K ι H a x ∧ Post G W σ ι H (RV G) Q (slV a lo hi M)
theorem sIx_eq (n d : Nat) (o : Option Int) : HT.sIx n d o = bound n d o := by cases o <;> rfl
theorem lay_post {σ : L2.St} {ι : List Addr} {H : Hp} {M : Store} {Q : VK} {xs : List Val} {vs : List V} (q : Post G W σ ι H (RV G) Q (.ok (.ref M.length) (M ++ [.lst xs]))) (hr : HR G ι M H) (r : VRs G.K ι H xs vs) {D : Addr} (hD : H D = none) : Q (.ref D) (upd H D (.lst vs)) := by
  have h : PostL G W σ ι H Q (.ok xs M) := Post.lay (r := .ok xs M) q
  exact h.make hr r hD
theorem sl_run (gk : G.K = X.K) : SlR X (rSlM G W) := by
  obtain ⟨K, cl⟩ := G
  obtain rfl : K = X.K := gk
  rintro ps s σ' H x v vl vu lo hi sl Q I rx hs pl pu ⟨σ, ι, M, a, hr, ra, q⟩
  unfold slV at q
  split at q
  · cases ra with
    | str z hz =>
      refine sl_str ps s σ' H _ v vl vu lo hi sl Q I rx hs pl pu ⟨_, rfl, hz.len, ?_⟩
      rw [cutS_eq]
      exact q.here hr (.str _ (okS_cut hz lo hi))
  · cases ra with
    | tup hT r =>
      refine sl_tupA ps s σ' H _ v vl vu lo hi sl Q I rx hs pl pu ⟨_, _, rfl, hT, fun e => ?_, fun _ p hp => ?_⟩
      · rw [sIx_eq, sIx_eq, ← r.length] at e
        rw [cut_whole e.1 e.2] at q
        exact q.here hr (.tup hT r)
      · exact q ι _ _ (Le.new hp) (hr.new hp) (vr_tup_new hp (r.cutv lo hi))
  · cases ra with
    | frz hT r =>
      exact sl_list ps s σ' H _ v vl vu lo hi sl Q I rx hs pl pu ⟨_, _, rfl, hT.sq, fun p hp => lay_post q hr (r.cutv lo hi) hp⟩
  · cases ra with
    | ref ha =>
      split at q
      · rename_i em
        obtain ⟨vs, h1, h2⟩ := hr.sq_at em ha
        exact sl_list ps s σ' H _ v vl vu lo hi sl Q I rx hs pl pu ⟨_, _, rfl, h1, fun p hp => lay_post q hr (h2.cutv lo hi) hp⟩
      · exact q.elim
  · exact q.elim
theorem e_sl (g : Good X G W cf ct lv) {a : Expr} {lo hi : Option Expr} {ma : E} {ml mh : Eo} {p2 pos : Pos} (ha : PE X a (tE G W cf ma)) (hl : PO X lo (tEo G W cf ml)) (hh : PO X hi (tEo G W cf mh)) :
    PE X (.Subscript a (.Slice lo hi none p2) pos) (tE G W cf (.sl ma ml mh)) := by
  refine (pe_slice (sl_run (W := W) g.gk) ha hl hh).imp fun σ H Q q => ?_
  obtain ⟨ι, τ, M, hs, hr, q⟩ := q
  unfold ev at q
  refine ⟨ι, τ, M, hs, hr, q.bind fun x M1 ι1 H1 v _ l1 hr1 r1 q1 => ?_⟩
  refine ⟨ι1, τ, M1, hs.mono l1, hr1, q1.bind fun y M2 ι2 H2 w _ l2 hr2 r2 q2 => ?_⟩
  obtain rfl : w = y := r2
  refine ⟨ι2, τ, M2, (hs.mono l1).mono l2, hr2, q2.bind fun z M3 ι3 H3 u _ l3 hr3 r3 q3 => ?_⟩
  obtain rfl : u = z := r3
  exact ⟨σ, ι3, M3, x, hr3, (r1.mono l2).mono l3, q3⟩

/-! ### isinstance -/
def kinds : List String := ["NoneType", "bool", "int", "str", "tuple", "list", "dict"]
def tyn : Cl → String
  | .int => "int" | .bool => "bool" | .str => "str" | .tuple => "tuple" | .list => "list" | .dict => "dict" | .own _ => ""
def clv (G : Gs) : Cl → V
  | .own c => .ref (G.cls c)
  | c => .ty (tyn c)
theorem kits : ∀ t ∈ kinds, ∀ c ∈ ["int", "bool", "str", "tuple", "list", "dict"], kitB t c = some (t == c || (t == "bool" && c == "int")) := by decide +kernel
def okind : Option Obj → String
  | some (.lst _) => "list"
  | some (.dic _) => "dict"
  | some (.dit _) => "dict"
  | _ => ""
def vkind (M : Store) : Val → String
  | .non => "NoneType" | .bl _ => "bool" | .int _ => "int" | .str _ => "str" | .tup _ => "tuple" | .frz _ => "list"
  | .ref n => okind M[n]?
  | .fn _ => ""
theorem ty_of {ι : List Addr} {M : Store} {H : Hp} {a : Val} {v : V} (hr : HR G ι M H) (r : VR G.K ι H a v) (h : vkind M a ≠ "") : TyX G.K H v (.type (vkind M a)) := by
  cases r with
  | fn x => exact absurd rfl h
  | non => exact .base .non
  | bl b => exact .base (.bl b)
  | int i => exact .base (.int i)
  | str s _ => exact .base (.str _)
  | tup hT r =>
    rcases hT with (hT | ⟨o, hT⟩) | ⟨o, its, n, hk, hc, _⟩
    · exact .base (.tup hT)
    · exact .fTuple hT
    · exact .kTuple hk hc
  | frz hT r =>
    rcases hT with ⟨o, hT⟩ | ⟨o, its, n, hk, hc, _⟩
    · exact .base (.frz hT)
    · exact .kList hk hc
  | @ref n p e =>
    simp only [vkind] at h ⊢
    cases em : M[n]? with
    | none => rw [em] at h; exact absurd rfl h
    | some o =>
      rw [em] at h
      cases o with
      | lst xs =>
        obtain ⟨vs, h1, h2⟩ := hr.obj n _ p em e
        exact .base (.lst h1)
      | dic ks =>
        obtain ⟨ws, h1, h2⟩ := hr.obj n _ p em e
        exact .base (.dK h1)
      | dit ks =>
        obtain ⟨ws, h1, h2⟩ := hr.obj n _ p em e
        exact .base (.dT h1)
      | exv c => exact absurd rfl h
def rIsiM (G : Gs) (c : Cl) : List V → Hp → VK → Prop := fun xs H Q => ∃ ι M a v k, xs = [v, clv G c] ∧ HR G ι M H ∧ VR G.K ι H a v ∧ isOf c a M = some k ∧ Q (.bl k) H
theorem tyn_mem {c : Cl} (h : ∀ k, c ≠ .own k) : tyn c ∈ ["int", "bool", "str", "tuple", "list", "dict"] ∧ clv G c = .ty (tyn c) := by
  cases c with
  | own k => exact absurd rfl (h k)
  | _ => exact ⟨by simp [tyn], rfl⟩
theorem isi_run (g : Good X G W cf ct lv) (c : Cl) : CallR X (.builtin "isinstance") (rIsiM G c) := by
  have gk := g.gk
  have gx := g.exs
  obtain ⟨K, cl⟩ := G
  obtain rfl : K = X.K := gk
  rintro ps s σ H xs us Q I r ⟨ι, M, a, v, k, rfl, hr, ra, e, q⟩
  by_cases ho : ∃ m, c = .own m
  · obtain ⟨m, rfl⟩ := ho
    simp [isOf] at e
  · have hno : ∀ m, c ≠ .own m := fun m z => ho ⟨m, z⟩
    obtain ⟨hm, hcv⟩ := tyn_mem (G := ⟨X.K, cl⟩) hno
    by_cases hx : ∃ n m, a = .ref n ∧ M[n]? = some (.exv m)
    · obtain ⟨n, m, rfl, em⟩ := hx
      have ek : k = false := by
        simp only [isOf, em] at e
        cases c <;> simp_all
      subst ek
      cases ra with
      | @ref _ p ep =>
        have hp := hr.obj n _ p em ep
        obtain ⟨u1, u2, rfl, r1, r2⟩ := vals2 r
        cases r1
        rw [hcv] at r2
        cases r2
        obtain ⟨tt, hp, _⟩ := hp
        obtain ⟨⟨oe, vs, hget, hz, hv, _⟩, _, _⟩ := I.hok p _ (show H p = some (ExA (.ref (cl m)) tt p) from hp)
        have J : PySem.W.InstAt s.heap p oe (cl m) none := by
          obtain ⟨oc, od, oda, osl⟩ := oe
          obtain ⟨h1, h2⟩ := hz
          dsimp only at h1 h2 hv
          subst h1 h2 hv
          exact ⟨hget, rfl, rfl, trivial⟩
        obtain ⟨C, hC⟩ := gx m
        exact PySem.W.kia_one (PySem.W.handS_kitx_exc C.hg C.hk C.hs C.hd C.ha C.hn C.ht C.hm) I.kIn J (hC _ hm) (fun z => nomatch z) fun tk => ⟨.bl false, H, I.kept (t' := tk) fun _ _ z => z, rfl, q⟩
    · have hk : vkind M a ∈ kinds ∧ k = (vkind M a == tyn c || (vkind M a == "bool" && tyn c == "int")) := by
        cases a with
        | ref n =>
          simp only [isOf, vkind] at e ⊢
          cases em : M[n]? with
          | none => rw [em] at e; cases c <;> simp at e
          | some o =>
            rw [em] at e
            cases o with
            | lst xs => cases c <;> simp_all [kinds, tyn, okind]
            | dic xs => cases c <;> simp_all [kinds, tyn, okind]
            | dit xs => cases c <;> simp_all [kinds, tyn, okind]
            | exv m => exact absurd ⟨n, m, rfl, em⟩ hx
        | _ => cases c <;> simp_all [isOf, vkind, kinds, tyn]
      have hne : vkind M a ≠ "" := fun z => by
        have := hk.1
        rw [z] at this
        simp [kinds] at this
      refine call_isi ps s σ H _ us Q I r ⟨v, clv ⟨X.K, cl⟩ c, .type (vkind M a), .type (tyn c), k, rfl, ?_, ty_of hr ra hne, ?_, q⟩
      · rw [hcv]; exact .ty _
      · rw [hk.2]
        exact kit_ty (kits _ hk.1 _ hm)
end
end Mi
end MiRun3S

section MiRun4S
set_option Elab.async false
set_option linter.all false
set_option maxRecDepth 100000
namespace Mi
open PySem L2
section
variable {X : Cx} {G : Gs} {W : WX} {cf : Cf} {ct : Ct} {lv : Nat}
/-- a class's name as an argument -/
def clName : Cl → Str
  | .int => "int" | .bool => "bool" | .str => "str" | .tuple => "tuple" | .list => "list" | .dict => "dict" | .own _ => ""
theorem clBoot {c : Cl} (h : ∀ k, c ≠ .own k) : bootBuiltins (clName c) = some (.type (tyn c)) ∧ clName c ≠ "__name__" ∧ (clName c == ("__debug__" : Str)) = false := by
  cases c with
  | own k => exact absurd rfl (h k)
  | int => exact ⟨by decide +kernel, by decide +kernel, by decide +kernel⟩
  | bool => exact ⟨by decide +kernel, by decide +kernel, by decide +kernel⟩
  | str => exact ⟨by decide +kernel, by decide +kernel, by decide +kernel⟩
  | tuple => exact ⟨by decide +kernel, by decide +kernel, by decide +kernel⟩
  | list => exact ⟨by decide +kernel, by decide +kernel, by decide +kernel⟩
  | dict => exact ⟨by decide +kernel, by decide +kernel, by decide +kernel⟩
theorem e_isi (g : Good X G W cf ct lv) {a : Expr} {ma : E} {c : Cl} {p p2 pos : Pos} (ha : PE X a (tE G W cf ma)) (hn : notStar a = true) (hno : ∀ k, c ≠ .own k) (hg : glB ct.sc "isinstance" = true) (hb : ct.gl "isinstance" = some .blt)
    (hg2 : glB ct.sc (clName c) = true) (hb2 : ct.gl (clName c) = some .blt) : PE X (.Call (.Name "isinstance" p) [a, .Name (clName c) p2] [] pos) (tE G W cf (.isi ma c)) := by
  obtain ⟨h1, h2, h3⟩ := clBoot hno
  have hc := tyn_mem (G := G) hno
  have hT : PE X (.Name (clName c) p2) (tC (clv G c)) := by
    rw [hc.2]
    exact pe_bltn (glB_ok g.sc hg2) (g.blt _ hb2) h1 rfl h2 h3
  refine (pe_callB (isi_run g c) (glB_ok g.sc hg) (g.blt _ hb) PyProof.Rows.boot_isinstance (pa_cons ha (pa_cons hT pa_nil (star_ok rfl)) (star_ok hn)) (by decide) (by decide) (star_ok hn) (stars_ok (es := [.Name (clName c) p2]) rfl)).imp fun σ H Q q => ?_
  obtain ⟨ι, τ, M, hs, hr, q⟩ := q
  unfold ev at q
  refine ⟨ι, τ, M, hs, hr, q.bind fun x M1 ι1 H1 v _ l1 hr1 r1 q1 => ?_⟩
  obtain ⟨z, e, q2⟩ := q1.opt
  obtain ⟨k, e2, rfl⟩ := Option.map_eq_some_iff.mp e
  exact ⟨ι1, M1, x, v, k, rfl, hr1, r1, e2, q2.here hr1 (.bl k)⟩

/-! ### calls -/
theorem postC_of {σ : L2.St} {ι : List Addr} {H : Hp} {Q : VK} {r : Res Val} (h : Post G W σ ι H (RV G) Q r) : PostC G ι H Q (WE W σ) r := by
  cases r with
  | ok a M => exact h
  | exc x M => exact h
  | bad => exact h
theorem call_read {g k : Nat} {σ : L2.St} {H : Hp} {Q : VK} {ms : Es} (hk : ∀ τ M xs M1, evs cf ms τ M = .ok xs M1 → xs.length = k) (q : tE G W cf (.call g ms) σ H Q) : tCallS (spI G cf.call g k) (WE W) (tEs G W cf ms) σ H Q := by
  obtain ⟨ι, τ, M, hs, hr, q⟩ := q
  unfold ev at q
  refine ⟨ι, τ, M, hs, hr, q.bind fun xs M1 ι1 H1 vs e l1 hr1 r1 q1 => ?_⟩
  exact ⟨ι1, M1, xs, hk _ _ _ _ e, r1, hr1, postC_of q1⟩
def Es.len : Es → Nat
  | .nil => 0
  | .cons _ es => es.len + 1
theorem evs_len : ∀ {ms : Es} {τ : St} {M M1 : Store} {xs : List Val}, evs cf ms τ M = .ok xs M1 → xs.length = ms.len
  | .nil, _, _, _, _, h => by unfold evs at h; cases h; rfl
  | .cons e es, τ, M, M1, xs, h => by
    unfold evs at h
    cases h1 : ev cf e τ M with
    | ok x M2 =>
      rw [h1] at h
      simp only [Res.bind_ok] at h
      cases h2 : evs cf es τ M2 with
      | ok ys M3 =>
        rw [h2] at h
        simp only [Res.bind_ok] at h
        cases h
        simp [Es.len, evs_len h2]
      | exc => rw [h2] at h; cases h
      | bad => rw [h2] at h; cases h
    | exc => rw [h1] at h; cases h
    | bad => rw [h1] at h; cases h
theorem e_call (g : Good X G W cf ct lv) {x : Str} {i k : Nat} {e : Expr} {es : List Expr} {ms : Es} {p pos : Pos} (hx : ct.gl x = some (.fn i k)) (hg : glB ct.sc x = true) (ha : PA X (e :: es) (tEs G W cf ms)) (hl : ms.len = k) (hst : (e :: es).all notStar = true)
    (hd : (x == ("__debug__" : Str)) = false) : PE X (.Call (.Name x p) (e :: es) [] pos) (tE G W cf (.call i ms)) := by
  obtain ⟨f, fd, ps, hm, hk, hb, F⟩ := (g.fn x i k hx).ex
  have h' : notStar e = true ∧ es.all notStar = true := by simpa using hst
  refine (callG F g.gds g.room (glB_ok g.sc hg) hm hk hb (fun σ => passAt g.takes σ) ha hd (star_ok h'.1) (stars_ok h'.2)).imp fun σ H Q q => ?_
  exact call_read (fun _ _ _ _ h => (evs_len h).trans hl) q
theorem e_call0 (g : Good X G W cf ct lv) {x : Str} {i : Nat} {p pos : Pos} (hx : ct.gl x = some (.fn i 0)) (hg : glB ct.sc x = true) (hd : (x == ("__debug__" : Str)) = false) : PE X (.Call (.Name x p) [] [] pos) (tE G W cf (.call i .nil)) := by
  obtain ⟨f, fd, ps, hm, hk, hb, F⟩ := (g.fn x i 0 hx).ex
  refine (callG0 F g.gds g.room (glB_ok g.sc hg) hm hk hb (fun σ => passAt g.takes σ) hd).imp fun σ H Q q => ?_
  have q2 := call_read (k := 0) (fun _ _ _ _ h => (evs_len h).trans rfl) q
  obtain ⟨ι, τ, M, hs, hr, q3⟩ := q2
  exact q3.here hr .nil

/-! ### built-in functions of a value -/
def rBi (G : Gs) (W : WX) (cf : Cf) (b : Bi) : List V → Hp → VK → Prop := fun xs H Q => ∃ σ ι M a v, xs = [v] ∧ HR G ι M H ∧ VR G.K ι H a v ∧ Post G W σ ι H (RV G) Q (bi1 cf b a M)
def bivn : Bi → Str
  | .len => "len" | .int => "int" | .tuple => "tuple" | .repr => "repr" | .abs => "abs"
def biv : Bi → Value
  | .len => .builtin "len" | .int => .type "int" | .tuple => .type "tuple" | .repr => .builtin "repr" | .abs => .builtin "abs"
theorem bi_run (g : Good X G W cf ct lv) (b : Bi) (ho : ∀ v M z, cf.repr v M = some z → okS z) : CallR X (biv b) (rBi G W cf b) := by
  have gk := g.gk
  rintro ps s σ' H xs us Q I r ⟨σ, ι, M, a, v, rfl, hr, ra, q⟩
  cases b with
  | len =>
    unfold bi1 at q
    obtain ⟨z, e, q2⟩ := q.opt
    obtain ⟨n, e2, rfl⟩ := Option.map_eq_some_iff.mp e
    refine call_len ps s σ' H _ us Q I r ⟨v, n, rfl, ?_, q2.here hr (.int _)⟩
    rw [← gk]
    exact len_ok hr ra e2
  | int =>
    unfold bi1 at q
    simp only at q
    split at q
    · cases ra
      exact call_int1 ps s σ' H _ us Q I r (.inl ⟨_, rfl, q.here hr (.int _)⟩)
    · cases ra
      exact call_int1 ps s σ' H _ us Q I r (.inr ⟨_, rfl, q.here hr (.int _)⟩)
    · exact q.elim
  | tuple =>
    unfold bi1 at q
    simp only at q
    split at q
    · cases ra with
      | tup hT rr => exact call_tuple_of ps s σ' H _ us Q I r ⟨_, _, rfl, .inr ⟨by rw [← gk]; exact hT, q.here hr (.tup hT rr)⟩⟩
    · cases ra with
      | ref ha =>
        split at q
        · rename_i em
          obtain ⟨vs, h1, h2⟩ := hr.sq_at em ha
          exact call_tuple_of ps s σ' H _ us Q I r ⟨_, _, rfl, .inl ⟨by rw [← gk]; exact h1, fun p hp => q ι _ _ (Le.new hp) (hr.new hp) (vr_tup_new hp h2)⟩⟩
        · exact q.elim
    · exact q.elim
  | abs =>
    unfold bi1 at q
    simp only at q
    split at q
    · cases ra
      exact call_abs ps s σ' H _ us Q I r ⟨_, rfl, q.here hr (.int _)⟩
    · exact q.elim
  | repr =>
    unfold bi1 at q
    obtain ⟨z, e, q2⟩ := q.opt
    obtain ⟨n, e2, rfl⟩ := Option.map_eq_some_iff.mp e
    exact g.rep X gk.symm g.gds g.room g.calm ps s σ' H _ us Q I r ⟨ι, M, a, v, n, rfl, hr, ra, e2, ho _ _ _ e2, q2.here hr (.str _ (ho _ _ _ e2))⟩
theorem e_bi (g : Good X G W cf ct lv) {a : Expr} {ma : E} {b : Bi} {p pos : Pos} (ho : ∀ v M z, cf.repr v M = some z → okS z) (ha : PE X a (tE G W cf ma)) (hn : notStar a = true) (hg : glB ct.sc (bivn b) = true) (hb : ct.gl (bivn b) = some .blt) :
    PE X (.Call (.Name (bivn b) p) [a] [] pos) (tE G W cf (.bi b ma)) := by
  have key : PE X (.Call (.Name (bivn b) p) [a] [] pos) (tCB (rBi G W cf b) (tCons (tE G W cf ma) tNil)) := by
    have R := bi_run (W := W) g b ho
    cases b with
    | len => exact pe_callB R (glB_ok g.sc hg) (g.blt _ hb) PySem.boot_len (pa_cons ha pa_nil (star_ok hn)) (by decide +kernel) (by decide +kernel) (star_ok hn) (stars_ok (es := []) rfl)
    | int => exact pe_callTy R (glB_ok g.sc hg) (g.blt _ hb) PyProof.Rows.boot_int (pa_cons ha pa_nil (star_ok hn)) (by decide +kernel) (by decide +kernel) (star_ok hn) (stars_ok (es := []) rfl)
    | tuple => exact pe_callTy R (glB_ok g.sc hg) (g.blt _ hb) PyProof.Rows.boot_tuple (pa_cons ha pa_nil (star_ok hn)) (by decide +kernel) (by decide +kernel) (star_ok hn) (stars_ok (es := []) rfl)
    | abs => exact pe_callB R (glB_ok g.sc hg) (g.blt _ hb) PyProof.Rows.boot_abs (pa_cons ha pa_nil (star_ok hn)) (by decide +kernel) (by decide +kernel) (star_ok hn) (stars_ok (es := []) rfl)
    | repr => exact pe_callB R (glB_ok g.sc hg) (g.blt _ hb) PyProof.Rows.boot_repr (pa_cons ha pa_nil (star_ok hn)) (by decide +kernel) (by decide +kernel) (star_ok hn) (stars_ok (es := []) rfl)
  refine key.imp fun σ H Q q => ?_
  obtain ⟨ι, τ, M, hs, hr, q⟩ := q
  unfold ev at q
  refine ⟨ι, τ, M, hs, hr, q.bind fun x M1 ι1 H1 v _ l1 hr1 r1 q1 => ?_⟩
  exact ⟨σ, ι1, M1, x, v, rfl, hr1, r1, q1⟩

/-! ### built-in functions of a fresh list -/
theorem bools_ok {ι : List Addr} {H : Hp} : ∀ {xs : List Val} {vs : List V} {bs : List Bool}, VRs G.K ι H xs vs → boolsOf xs = some bs → vs = bs.map V.bl
  | [], _, _, r, e => by cases r; cases e; rfl
  | x :: xs, _, bs, r, e => by
    cases r with
    | cons r1 r2 =>
      cases x with
      | bl b =>
        simp only [boolsOf] at e
        obtain ⟨cs, e1, rfl⟩ := Option.map_eq_some_iff.mp e
        cases r1
        rw [bools_ok r2 e1]; rfl
      | _ => simp [boolsOf] at e
theorem ints_ok {ι : List Addr} {H : Hp} : ∀ {xs : List Val} {vs : List V} {bs : List Int}, VRs G.K ι H xs vs → intsOf xs = some bs → vs = bs.map V.int
  | [], _, _, r, e => by cases r; cases e; rfl
  | x :: xs, _, bs, r, e => by
    cases r with
    | cons r1 r2 =>
      cases x with
      | int b =>
        simp only [intsOf] at e
        obtain ⟨cs, e1, rfl⟩ := Option.map_eq_some_iff.mp e
        cases r1
        rw [ints_ok r2 e1]; rfl
      | _ => simp [intsOf] at e
theorem strs_ok {ι : List Addr} {H : Hp} : ∀ {xs : List Val} {vs : List V} {zs : List (List Nat)}, VRs G.K ι H xs vs → strsOf xs = some zs → vs = (zs.map toS).map V.str ∧ ∀ z ∈ zs, okS z
  | [], _, _, r, e => by cases r; cases e; exact ⟨rfl, fun _ h => by simp at h⟩
  | x :: xs, _, bs, r, e => by
    cases r with
    | cons r1 r2 =>
      cases x with
      | str b =>
        simp only [strsOf] at e
        obtain ⟨cs, e1, rfl⟩ := Option.map_eq_some_iff.mp e
        obtain ⟨h1, h2⟩ := strs_ok r2 e1
        cases r1 with
        | str _ hb =>
          refine ⟨by rw [h1]; rfl, fun z hz => ?_⟩
          rcases List.mem_cons.mp hz with rfl | hz
          · exact hb
          · exact h2 z hz
      | _ => simp [strsOf] at e
def rBil (G : Gs) (W : WX) (b : Bil) : List V → Hp → VK → Prop := fun us H Q => ∃ σ ι M H0 xs v, us = [v] ∧ HR G ι M H ∧ Fresh G H0 ι H xs v ∧ Post G W σ ι H (RV G) Q (bil1 b xs M)
def bilvn : Bil → Str
  | .all => "all" | .any => "any" | .sum => "sum" | .tuple => "tuple"
def bilv : Bil → Value
  | .all => .builtin "all" | .any => .builtin "any" | .sum => .builtin "sum" | .tuple => .type "tuple"
theorem bil_run (g : Good X G W cf ct lv) (b : Bil) : CallR X (bilv b) (rBil G W b) := by
  rintro ps s σ' H us ws Q I r ⟨σ, ι, M, H0, xs, v, rfl, hr, ⟨D, vs, rfl, hD, rv, np, h0⟩, q⟩
  cases b with
  | all =>
    unfold bil1 at q
    obtain ⟨z, e, q2⟩ := q.opt
    obtain ⟨n, e2, rfl⟩ := Option.map_eq_some_iff.mp e
    have hv := bools_ok rv e2
    subst hv
    exact cr_all g.calm ps s σ' H _ ws Q I r ⟨D, n, rfl, SqL.of hD, q2.here hr (.bl _)⟩
  | any =>
    unfold bil1 at q
    obtain ⟨z, e, q2⟩ := q.opt
    obtain ⟨n, e2, rfl⟩ := Option.map_eq_some_iff.mp e
    have hv := bools_ok rv e2
    subst hv
    exact cr_any g.calm ps s σ' H _ ws Q I r ⟨D, n, rfl, SqL.of hD, q2.here hr (.bl _)⟩
  | sum =>
    unfold bil1 at q
    obtain ⟨z, e, q2⟩ := q.opt
    obtain ⟨n, e2, rfl⟩ := Option.map_eq_some_iff.mp e
    have hv := ints_ok rv e2
    subst hv
    exact cr_sum g.calm ps s σ' H _ ws Q I r ⟨D, n, rfl, SqL.of hD, q2.here hr (.int _)⟩
  | tuple =>
    unfold bil1 at q
    exact call_tuple_of ps s σ' H _ ws Q I r ⟨D, vs, rfl, .inl ⟨SqL.of hD, fun p hp => q ι _ _ (Le.new hp) (hr.new hp) (vr_tup_new hp rv)⟩⟩
theorem e_bil (g : Good X G W cf ct lv) {a : Expr} {l : L} {b : Bil} {p pos : Pos} (ha : PE X a (tL G W cf l)) (hn : notStar a = true) (hg : glB ct.sc (bilvn b) = true) (hb : ct.gl (bilvn b) = some .blt) :
    PE X (.Call (.Name (bilvn b) p) [a] [] pos) (tE G W cf (.bil b l)) := by
  have key : PE X (.Call (.Name (bilvn b) p) [a] [] pos) (tCB (rBil G W b) (tCons (tL G W cf l) tNil)) := by
    have R := bil_run (W := W) g b
    cases b with
    | all => exact pe_callB R (glB_ok g.sc hg) (g.blt _ hb) PyProof.Rows.boot_all (pa_cons ha pa_nil (star_ok hn)) (by decide +kernel) (by decide +kernel) (star_ok hn) (stars_ok (es := []) rfl)
    | any => exact pe_callB R (glB_ok g.sc hg) (g.blt _ hb) PyProof.Rows.boot_any (pa_cons ha pa_nil (star_ok hn)) (by decide +kernel) (by decide +kernel) (star_ok hn) (stars_ok (es := []) rfl)
    | sum => exact pe_callB R (glB_ok g.sc hg) (g.blt _ hb) PyProof.Rows.boot_sum (pa_cons ha pa_nil (star_ok hn)) (by decide +kernel) (by decide +kernel) (star_ok hn) (stars_ok (es := []) rfl)
    | tuple => exact pe_callTy R (glB_ok g.sc hg) (g.blt _ hb) PyProof.Rows.boot_tuple (pa_cons ha pa_nil (star_ok hn)) (by decide +kernel) (by decide +kernel) (star_ok hn) (stars_ok (es := []) rfl)
  refine key.imp fun σ H Q q => ?_
  obtain ⟨ι, τ, M, hs, hr, q⟩ := q
  unfold ev at q
  refine ⟨ι, τ, M, hs, hr, PostL.bind q fun xs M1 ι1 H1 v _ l1 hr1 r1 q1 => ?_⟩
  exact ⟨σ, ι1, M1, H, xs, v, rfl, hr1, r1, q1⟩
end
end Mi
end MiRun4S

section MiRun5S
set_option Elab.async false
set_option linter.all false
set_option maxRecDepth 100000
namespace Mi
open PySem L2
theorem printable : ∀ c < 128, Unicode.isPrintable c = decide (32 ≤ c ∧ c ≤ 126) := by decide +kernel
theorem upperOne : ∀ c < 128, Unicode.upperOf c = [up c] := by decide +kernel
theorem up_lt : ∀ c < 128, up c < 128 := by decide +kernel
theorem isascii_toS {s : List Nat} (h : okS s) : Txt.isascii (toS s) = true := by
  unfold Txt.isascii toS
  rw [List.all_toArray, List.all_eq_true]
  exact fun c hc => decide_eq_true (h.2 c hc)
theorem isprintable_toS {s : List Nat} (h : okS s) : Txt.isprintable (toS s) = s.all fun c => decide (32 ≤ c ∧ c ≤ 126) := by
  unfold Txt.isprintable toS
  rw [List.all_toArray]
  have k : ∀ l : List Nat, (∀ c ∈ l, c < 128) → l.all Unicode.isPrintable = l.all fun c => decide (32 ≤ c ∧ c ≤ 126) := by
    intro l
    induction l with
    | nil => intro _; rfl
    | cons c l ih =>
      intro hl
      rw [List.all_cons, List.all_cons, printable c (hl c List.mem_cons_self), ih fun d hd => hl d (List.mem_cons_of_mem _ hd)]
  exact k s h.2
theorem upper_toS {s : List Nat} (h : okS s) : Txt.upper (toS s) = toS (s.map up) := by
  unfold Txt.upper toS placed
  congr 1
  have e : (s.toArray.mapIdx fun i c => (Unicode.upperOf c).toArray) = (s.map fun c => #[up c]).toArray := by
    apply Array.ext
    · simp
    · intro i h1 h2
      simp at h1
      simp [upperOne _ (h.2 s[i] (List.getElem_mem h1))]
  rw [show (Str.mk s.toArray).cps = s.toArray from rfl, e]
  have k : ∀ l : List Nat, (l.map fun c => #[up c]).toArray.flatten = (l.map up).toArray := by
    intro l
    induction l with
    | nil => rfl
    | cons c l ih =>
      rw [← Array.toList_inj] at ih ⊢
      simp only [Array.toList_flatten, List.map_cons, List.flatten_cons] at ih ⊢
      rw [ih]; rfl
  exact k s
theorem okS_up {s : List Nat} (h : okS s) : okS (s.map up) := ⟨by rw [List.length_map]; exact h.1, fun c hc => by
  obtain ⟨d, hd, rfl⟩ := List.mem_map.mp hc
  exact up_lt d (h.2 d hd)⟩
theorem join_toS (sep : List Nat) : ∀ zs : List (List Nat), Txt.join (toS sep) (zs.map toS) = toS (joined sep zs)
  | [] => rfl
  | z :: zs => by
    show PySem.Builtin.Str.glued (toS sep) (toS z :: zs.map toS) = _
    unfold PySem.Builtin.Str.glued
    have k : ∀ (l : List (List Nat)) (acc : List Nat), (l.map toS).foldl (fun a p => a ++ (toS sep).cps ++ p.cps) acc.toArray = (l.foldl (fun a p => a ++ sep ++ p) acc).toArray := by
      intro l
      induction l with
      | nil => intro acc; rfl
      | cons y l ih =>
        intro acc
        rw [List.map_cons, List.foldl_cons, List.foldl_cons, ← ih]
        congr 1
        simp [toS]
    have k2 : ∀ (l : List (List Nat)) (acc : List Nat), l.foldl (fun a p => a ++ sep ++ p) acc = acc ++ (l.map fun p => sep ++ p).flatten := by
      intro l
      induction l with
      | nil => intro acc; simp
      | cons y l ih => intro acc; rw [List.foldl_cons, ih]; simp
    have k3 : ∀ (l : List (List Nat)) (y : List Nat), joined sep (y :: l) = y ++ (l.map fun p => sep ++ p).flatten := by
      intro l
      induction l with
      | nil => intro y; simp [joined]
      | cons x l ih => intro y; rw [joined, ih]; simp
    rw [k3, ← k2]
    show Str.mk ((zs.map toS).foldl _ (toS z).cps) = _
    have e : (toS z).cps = z.toArray := rfl
    rw [e, k]
    rfl
theorem joined_len (sep : List Nat) : ∀ zs : List (List Nat), (joined sep zs).length ≤ (zs.map List.length).sum + zs.length * sep.length
  | [] => by simp [joined]
  | [z] => by simp [joined]
  | z :: y :: r => by
    have h := joined_len sep (y :: r)
    rw [joined, List.length_append, List.length_append, List.map_cons, List.sum_cons, List.length_cons (as := y :: r), Nat.succ_mul]
    omega
theorem joined_mem (sep : List Nat) : ∀ (zs : List (List Nat)) (c : Nat), c ∈ joined sep zs → c ∈ sep ∨ ∃ z ∈ zs, c ∈ z
  | [], c, h => by simp [joined] at h
  | [z], c, h => .inr ⟨z, by simp, h⟩
  | z :: y :: r, c, h => by
    rw [joined] at h
    rcases List.mem_append.mp h with h | h
    · rcases List.mem_append.mp h with h | h
      · exact .inr ⟨z, by simp, h⟩
      · exact .inl h
    · rcases joined_mem sep (y :: r) c h with h | ⟨w, h1, h2⟩
      · exact .inl h
      · exact .inr ⟨w, List.mem_cons_of_mem _ h1, h2⟩
section
variable {X : Cx} {G : Gs} {W : WX} {cf : Cf} {ct : Ct} {lv : Nat}
def rMt (G : Gs) (W : WX) (m : Mt) : V → List V → Hp → VK → Prop := fun x xs H Q => ∃ σ ι M a, xs = [] ∧ HR G ι M H ∧ VR G.K ι H a x ∧ Post G W σ ι H (RV G) Q (mt1 m a M)
def mtId : Mt → String
  | .isascii => "str.isascii" | .isprintable => "str.isprintable" | .upper => "str.upper"
def mtN : Mt → Str
  | .isascii => "isascii" | .isprintable => "isprintable" | .upper => "upper"
theorem mt_run (m : Mt) : MtR X (mtId m) (rMt G W m) := by
  rintro ps s σ' H x xs v us Q I rx rs ⟨σ, ι, M, a, rfl, hr, ra, q⟩
  unfold mt1 at q
  split at q
  · cases ra with
    | str z hz =>
      refine mt_isascii ps s σ' H _ _ v us Q I rx rs ⟨_, rfl, rfl, trivial, ?_⟩
      rw [isascii_toS hz]
      exact q.here hr (.bl _)
  · cases ra with
    | str z hz =>
      refine mt_isprintable ps s σ' H _ _ v us Q I rx rs ⟨_, rfl, rfl, trivial, ?_⟩
      rw [isprintable_toS hz]
      exact q.here hr (.bl _)
  · cases ra with
    | str z hz =>
      split at q
      · rename_i c
        refine mt_upper ps s σ' H _ _ v us Q I rx rs ⟨_, rfl, rfl, by rw [toS_length]; simpa using c, ?_⟩
        rw [upper_toS hz]
        exact q.here hr (.str _ (okS_up hz))
      · exact q.elim
  · exact q.elim
theorem e_mt (g : Good X G W cf ct lv) {a : Expr} {ma : E} {m : Mt} {ap cp : Pos} (ha : PE X a (tE G W cf ma)) (hc : notCall0 a = true) (hl : (ap.endLine == cp.line) = true) : PE X (.Call (.Attribute a (mtN m) ap) [] [] cp) (tE G W cf (.mt m ma)) := by
  have key : PE X (.Call (.Attribute a (mtN m) ap) [] [] cp) (tBM0 X.K "str" (rMt G W m) (tE G W cf ma)) := by
    have R := mt_run (X := X) (G := G) (W := W) m
    cases m with
    | isascii => exact pe_bm0 PySem.F.plainAttrs_str PySem.F.slot_str_isascii PySem.F.type_str_isascii R ha (base_ok hc) hl
    | isprintable => exact pe_bm0 PySem.F.plainAttrs_str PySem.F.slot_str_isprintable PySem.F.type_str_isprintable R ha (base_ok hc) hl
    | upper => exact pe_bm0 PySem.F.plainAttrs_str PySem.F.slot_str_upper PySem.F.type_str_upper R ha (base_ok hc) hl
  refine key.imp fun σ H Q q => ?_
  obtain ⟨ι, τ, M, hs, hr, q⟩ := q
  unfold ev at q
  refine ⟨ι, τ, M, hs, hr, q.bind fun x M1 ι1 H1 v _ l1 hr1 r1 q1 => ?_⟩
  refine ⟨?_, σ, ι1, M1, x, rfl, hr1, r1, q1⟩
  cases r1 with
  | str z hz => rfl
  | _ => cases m <;> exact q1.elim
theorem okS_joined {sep : List Nat} {zs : List (List Nat)} (hs : okS sep) (hz : ∀ z ∈ zs, okS z) (h : (zs.map List.length).sum + zs.length * sep.length ≤ LIM) : okS (joined sep zs) :=
  ⟨Nat.le_trans (joined_len _ _) h, fun c hc => (joined_mem _ _ c hc).elim (hs.2 c) fun ⟨z, h1, h2⟩ => (hz z h1).2 c h2⟩
theorem few1 {env : Env} {e : Expr} {cp : Pos} (h : notStar e = true) : ((backTo cp (starEach [e] env)).all (fun x => !x.1) && (backToKw cp (keywordEach [] env)).all (fun x => x.1.isSome)
      && decide ([e].length + ([] : List Keyword).length + (if ([] : List Keyword).isEmpty then 0 else 1) < 30)) = true := by
  rw [star_ok h]; rfl
theorem e_join (g : Good X G W cf ct lv) {a b : Expr} {ma : E} {l : L} {ap cp : Pos} (ha : PE X a (tE G W cf ma)) (hb : PE X b (tL G W cf l)) (hc : notCall0 a = true) (hl : (ap.endLine == cp.line) = true) (hn : notStar b = true) :
    PE X (.Call (.Attribute a "join" ap) [b] [] cp) (tE G W cf (.join ma l)) := by
  refine (pe_bm PySem.F.plainAttrs_str PySem.F.slot_str_join PySem.F.type_str_join mt_join ha (pa_cons hb pa_nil (star_ok hn)) (base_ok hc) (few1 hn) hl (star_ok hn) (stars_ok (es := []) rfl)).imp fun σ H Q q => ?_
  obtain ⟨ι, τ, M, hs, hr, q⟩ := q
  unfold ev at q
  refine ⟨ι, τ, M, hs, hr, q.bind fun x M1 ι1 H1 v _ l1 hr1 r1 q1 => ?_⟩
  cases r1 with
  | str sep hsep =>
    refine ⟨rfl, ι1, τ, M1, hs.mono l1, hr1, PostL.bind q1 fun xs M2 ι2 H2 w _ l2 hr2 f2 q2 => ?_⟩
    obtain ⟨D, vs, rfl, hD, rv, np, h0⟩ := f2
    cases e : strsOf xs with
    | none => rw [e] at q2; exact q2.elim
    | some zs =>
      rw [e] at q2
      obtain ⟨h1, h2⟩ := strs_ok rv e
      subst h1
      simp only at q2
      split at q2
      · rename_i c
        refine ⟨toS sep, D, zs.map toS, rfl, rfl, .inl (SqL.of hD), ?_, ?_⟩
        · rw [toS_length, List.length_map, List.map_map]
          have e2 : (Str.length ∘ toS) = List.length := by funext z; exact toS_length z
          rw [e2]
          exact c
        · rw [join_toS]
          exact q2.here hr2 (.str _ (okS_joined hsep h2 c))
      · exact q2.elim
  | _ => exact q1.elim
end
end Mi
end MiRun5S

section MiRun6S
set_option Elab.async false
set_option linter.all false
set_option maxRecDepth 100000
namespace Mi
open PySem L2

/-! ### slots wiped and set -/
theorem wipe_at (σ : L2.St) (j : Nat) : ∀ vs : List Nat, (L2.wipe σ vs)[j]? = if j ∈ vs then (σ[j]?).map fun _ => none else σ[j]?
  | [] => by simp [L2.wipe]
  | v :: vs => by
    have ih := wipe_at σ j vs
    show ((L2.wipe σ vs).set v none)[j]? = _
    rw [List.getElem?_set, ih, wipe_length]
    by_cases hv : v = j
    · subst hv
      rw [if_pos rfl, if_pos (List.mem_cons_self)]
      by_cases hl : v < σ.length
      · rw [if_pos hl, List.getElem?_eq_getElem hl]; rfl
      · rw [if_neg hl, List.getElem?_eq_none (by omega)]; rfl
    · rw [if_neg hv]
      by_cases hj : j ∈ vs
      · rw [if_pos hj, if_pos (List.mem_cons_of_mem _ hj)]
      · rw [if_neg hj, if_neg (by simp only [List.mem_cons, not_or]; exact ⟨fun e => hv e.symm, hj⟩)]
theorem wipe_set {σ : L2.St} {i : Nat} {w : Option V} {vs : List Nat} (h : i ∈ vs) : L2.wipe (σ.set i w) vs = L2.wipe σ vs := by
  apply List.ext_getElem?
  intro j
  rw [wipe_at, wipe_at]
  by_cases hj : j ∈ vs
  · rw [if_pos hj, if_pos hj]
    by_cases hl : j < σ.length
    · rw [List.getElem?_eq_getElem (by simpa using hl), List.getElem?_eq_getElem hl]; rfl
    · rw [List.getElem?_eq_none (by simp; omega), List.getElem?_eq_none (by omega)]
  · rw [if_neg hj, if_neg hj, List.getElem?_set_ne (fun e : i = j => hj (by rw [← e]; exact h))]
theorem wipe_wipe {σ : L2.St} {vs : List Nat} : L2.wipe (L2.wipe σ vs) vs = L2.wipe σ vs := by
  apply List.ext_getElem?
  intro j
  rw [wipe_at, wipe_at]
  by_cases hj : j ∈ vs
  · rw [if_pos hj, if_pos hj]; cases σ[j]? <;> rfl
  · rw [if_neg hj, if_neg hj]

/-! ### targets -/
def gNs : List Nat → TGs
  | [] => gNil
  | i :: is => gCons (gName i) (gNs is)
def gT (G : Gs) : Tg → TG
  | .one i => gName i
  | .many is => gTup G.K is.length (gNs is)
def Tg.slots : Tg → List Nat
  | .one i => [i]
  | .many is => is
theorem gns_ok {G : Gs} {ι : List Addr} {H : Hp} : ∀ {is : List Nat} {xs : List Val} {vs : List V} {τ τ2 : St} {σ : L2.St} {Q : L2.St → Hp → Prop}, xs.length = is.length → VRs G.K ι H xs vs → SR G ι H τ σ →
    (is.zip xs).foldl (fun s p => s.set p.1 (some p.2)) τ = τ2 → (∀ σ2, SR G ι H τ2 σ2 → (∀ us, (∀ i ∈ is, i ∈ us) → L2.wipe σ2 us = L2.wipe σ us) → Q σ2 H) → gNs is vs σ H Q
  | [], xs, vs, τ, τ2, σ, Q, hl, r, hs, e, k => by
    have : xs = [] := by simpa using hl
    subst this
    cases r
    cases e
    exact ⟨rfl, k _ hs fun _ _ => rfl⟩
  | i :: is, [], vs, τ, τ2, σ, Q, hl, r, hs, e, k => by simp at hl
  | i :: is, x :: xs, vs, τ, τ2, σ, Q, hl, r, hs, e, k => by
    cases r with
    | cons r1 r2 =>
      refine ⟨_, _, rfl, ?_⟩
      show gNs is _ (σ.set i (some _)) H Q
      refine gns_ok (by simpa using hl) r2 (hs.set r1 i) (by simpa using e) fun σ2 h2 hw => k σ2 h2 fun us hu => ?_
      rw [hw us fun j hj => hu j (List.mem_cons_of_mem _ hj), wipe_set (hu i List.mem_cons_self)]
theorem put_ok {G : Gs} {ι : List Addr} {H : Hp} {t : Tg} {x : Val} {v : V} {τ τ2 : St} {σ : L2.St} {Q : L2.St → Hp → Prop} (e : put t x τ = some τ2) (r : VR G.K ι H x v) (hs : SR G ι H τ σ)
    (k : ∀ σ2, SR G ι H τ2 σ2 → (∀ us, (∀ i ∈ t.slots, i ∈ us) → L2.wipe σ2 us = L2.wipe σ us) → Q σ2 H) : gT G t v σ H Q := by
  cases t with
  | one i =>
    cases e
    exact k _ (hs.set r i) fun us hu => wipe_set (hu i (by simp [Tg.slots]))
  | many is =>
    unfold put at e
    cases r with
    | tup hT rr =>
      simp only at e
      split at e
      · rename_i hl
        refine ⟨_, _, rfl, hT, rr.length ▸ hl, ?_⟩
        exact gns_ok hl rr hs (Option.some.inj e) k
      · cases e
    | _ => simp at e
section
variable {X : Cx} {G : Gs} {W : WX} {cf : Cf} {ct : Ct} {lv : Nat}
/-- names that may be stored -/
def stoB (ct : Ct) (x : Str) : Bool := match ct.sc.names.lookup x with
  | some .local => true
  | some .cell => ct.fnc x
  | _ => false
theorem Good.sto (g : Good X G W cf ct lv) {x : Str} (h : stoB ct x = true) : Loc X.env.scope x ∧ (X.fn x = true ∨ X.env.scope.names.lookup x = some .local) := by
  unfold stoB at h
  rw [← g.sc] at h
  split at h
  · rename_i e
    exact ⟨.inl e, .inr e⟩
  · rename_i e
    exact ⟨.inr e, .inl (by rw [g.fnc]; exact h)⟩
  · cases h
theorem g_one (g : Good X G W cf ct lv) {i : Nat} {x : Str} {pos : Pos} (hN : ct.N[i]? = some x) (hs : stoB ct x = true) : PG X (.Name x pos) (gT G (.one i)) :=
  pg_name g.nd (by rw [g.N]; exact hN) (g.sto hs).1 (g.sto hs).2
def namesAt (ct : Ct) : List Expr → Option (List Nat)
  | [] => some []
  | .Name x _ :: es => if stoB ct x then ((ct.N.findIdx? (· == x)).bind fun i => if ct.N[i]? == some x then (namesAt ct es).map (i :: ·) else none) else none
  | _ :: _ => none
theorem names_ok (g : Good X G W cf ct lv) : ∀ {es : List Expr} {is : List Nat}, namesAt ct es = some is → PGs X es (gNs is) ∧ (assignEach es X.env).length = is.length ∧ (assignEach es X.env).findIdx? (·.1) = none
  | [], is, h => by cases h; exact ⟨pgs_nil, rfl, rfl⟩
  | .Name x p :: es, is, h => by
    simp only [namesAt] at h
    split at h
    · rename_i hst
      obtain ⟨i, hi, h⟩ := Option.bind_eq_some_iff.mp h
      split at h
      · rename_i hN
        obtain ⟨js, hj, rfl⟩ := Option.map_eq_some_iff.mp h
        obtain ⟨h1, h2, h3⟩ := names_ok g hj
        refine ⟨pgs_cons (g_one g (by simpa using hN) hst) h1 rfl, ?_, ?_⟩
        · show (_ :: assignEach es X.env).length = _
          rw [List.length_cons, List.length_cons, h2]
        · show (_ :: assignEach es X.env).findIdx? _ = _
          rw [List.findIdx?_cons]
          show (if (false = true) then some 0 else _) = none
          rw [if_neg (by decide), h3]; rfl
      · cases h
    · cases h
theorem g_many (g : Good X G W cf ct lv) {es : List Expr} {is : List Nat} {k : Nat} {pos : Pos} (h : namesAt ct es = some is) : PG X (.Tuple es k pos) (gT G (.many is)) := by
  obtain ⟨h1, h2, h3⟩ := names_ok g h
  show PG X _ (gTup G.K is.length (gNs is))
  rw [g.gk]
  exact pg_tup g.calm h1 h2 h3
end
end Mi
end MiRun6S

section MiRun7S
set_option Elab.async false
set_option linter.all false
set_option maxRecDepth 100000
namespace Mi
open PySem L2

/-! ### what is walked -/
structure Wk (G : Gs) (ι : List Addr) (H : Hp) (xs : List Val) (g : Gd) (J : It) : Prop where
  go : ∀ ι' H' M', Le ι H ι' H' → HR G ι' M' H' → still M' xs g → ∀ i, i < xs.length → J.go i H'
  stop : ∀ ι' H' M', Le ι H ι' H' → HR G ι' M' H' → still M' xs g → J.stop xs.length H'
  yld : ∀ ι' H' M', Le ι H ι' H' → HR G ι' M' H' → still M' xs g → ∀ i x H2, i < xs.length → J.yld i H' x H2 → Le ι' H' ι' H2 ∧ HR G ι' M' H2 ∧ ∃ v, xs[i]? = some v ∧ VR G.K ι' H2 v x
def PostS (G : Gs) (W : WX) (σ : L2.St) (ι : List Addr) (H : Hp) (R : It → Hp → Prop) : Res (List Val × Gd) → Prop
  | .ok p M => ∀ ι' H' J, Le ι H ι' H' → HR G ι' M H' → Wk G ι' H' p.1 p.2 J → R J H'
  | .exc x M => ∀ ι' H' cls d, Le ι H ι' H' → HR G ι' M H' → XR G ι' H' x cls d → W cls d σ H'
  | .bad => False
def tS (G : Gs) (W : WX) (cf : Cf) (m : Src) : TI := fun σ H R => ∃ ι τ M, SR G ι H τ σ ∧ HR G ι M H ∧ PostS G W σ ι H R (evS cf m τ M)
section
variable {G : Gs} {W : WX} {σ : L2.St} {ι : List Addr} {H : Hp} {M : Store}
theorem PostS.mono {Q : It → Hp → Prop} {r : Res (List Val × Gd)} {ι1 : List Addr} {H1 : Hp} (h : PostS G W σ ι H Q r) (l : Le ι H ι1 H1) : PostS G W σ ι1 H1 Q r := by
  cases r with
  | ok a M => exact fun ι' H' b l' => h ι' H' b (l.trans l')
  | exc x M => exact fun ι' H' c d l' => h ι' H' c d (l.trans l')
  | bad => exact h
theorem PostS.of {α β : Type} {R : List Addr → Hp → α → β → Prop} {Q : β → Hp → Prop} {Q' : It → Hp → Prop} {r : Res α} {f : α → Store → Res (List Val × Gd)} (h : PostS G W σ ι H Q' (r.bind f))
    (k : ∀ a M1 ι1 H1 b, r = .ok a M1 → Le ι H ι1 H1 → HR G ι1 M1 H1 → R ι1 H1 a b → PostS G W σ ι1 H1 Q' (f a M1) → Q b H1) : Post G W σ ι H R Q r := by
  cases r with
  | ok a M => exact fun ι' H' b l hr rr => k a M ι' H' b rfl l hr rr (PostS.mono h l)
  | exc x M => exact h
  | bad => exact h
theorem PostS.ofL {Q : VK} {Q' : It → Hp → Prop} {r : Res (List Val)} {f : List Val → Store → Res (List Val × Gd)} (h : PostS G W σ ι H Q' (r.bind f))
    (k : ∀ xs M1 ι1 H1 v, r = .ok xs M1 → Le ι H ι1 H1 → HR G ι1 M1 H1 → Fresh G H ι1 H1 xs v → PostS G W σ ι1 H1 Q' (f xs M1) → Q v H1) : PostL G W σ ι H Q r := by
  cases r with
  | ok a M => exact fun ι' H' b l hr rr => k a M ι' H' b rfl l hr rr (PostS.mono h l)
  | exc x M => exact h
  | bad => exact h
theorem wk_list {xs : List Val} {a : Addr} {g : Gd} (h : ∀ ι' H' M', Le ι H ι' H' → HR G ι' M' H' → still M' xs g → ∃ us, SqL G.K H' a us ∧ VRs G.K ι' H' xs us) : Wk G ι H xs g (Itl G.K a) where
  go := fun ι' H' M' l hr s i hi => by
    obtain ⟨us, q, r⟩ := h ι' H' M' l hr s
    obtain ⟨v, e, _⟩ := r.get (List.getElem?_eq_getElem hi)
    exact ⟨us, v, q, e⟩
  stop := fun ι' H' M' l hr s => by
    obtain ⟨us, q, r⟩ := h ι' H' M' l hr s
    exact ⟨us, q, by rw [r.length]; exact Nat.le_refl _⟩
  yld := fun ι' H' M' l hr s i x H2 hi y => by
    obtain ⟨us, q, r⟩ := h ι' H' M' l hr s
    obtain ⟨v, e, rv⟩ := r.get (List.getElem?_eq_getElem hi)
    have e2 := y.2 us q
    rw [e] at e2
    cases e2
    rw [y.1]
    exact ⟨Le.refl, hr, xs[i], List.getElem?_eq_getElem hi, rv⟩
theorem wk_tup {xs : List Val} {vs : List V} {a : Addr} (q : SqT G.K H a vs) (r : VRs G.K ι H xs vs) : Wk G ι H xs [] (Itt G.K a) where
  go := fun ι' H' M' l hr s i hi => by
    obtain ⟨v, e, _⟩ := r.get (List.getElem?_eq_getElem hi)
    exact ⟨vs, v, l.ext.sqT q, e⟩
  stop := fun ι' H' M' l hr s => ⟨vs, l.ext.sqT q, by rw [r.length]; exact Nat.le_refl _⟩
  yld := fun ι' H' M' l hr s i x H2 hi y => by
    obtain ⟨v, e, rv⟩ := (r.mono l).get (List.getElem?_eq_getElem hi)
    have e2 := y.2 vs (l.ext.sqT q)
    rw [e] at e2
    cases e2
    rw [y.1]
    exact ⟨Le.refl, hr, xs[i], List.getElem?_eq_getElem hi, rv⟩
theorem wk_str {s : List Nat} (hs : okS s) : Wk G ι H (s.map fun c => Val.str [c]) [] (Its (toS s)) where
  go := fun ι' H' M' l hr _ i hi => by
    show i < (toS s).cps.size
    simpa [toS] using hi
  stop := fun ι' H' M' l hr _ => by
    show (toS s).cps.size ≤ _
    simp [toS]
  yld := fun ι' H' M' l hr _ i x H2 hi y => by
    obtain ⟨e1, c, e2, rfl⟩ := y
    have hi2 : i < s.length := by simpa using hi
    have e3 : s[i] = c := by
      have : s[i]? = some c := by simpa [toS] using e2
      rw [List.getElem?_eq_getElem hi2] at this
      exact Option.some.inj this
    rw [e1]
    refine ⟨Le.refl, hr, .str [s[i]], by simp [hi2], ?_⟩
    have : (⟨#[c]⟩ : Str) = toS [s[i]] := by rw [e3]; rfl
    rw [this]
    exact .str _ ⟨by rw [lim_val]; simp, fun d hd => by
      have : d = s[i] := by simpa using hd
      rw [this]; exact hs.2 _ (List.getElem_mem hi2)⟩
theorem wk_rng (n : Nat) : Wk G ι H ((List.range n).map fun i => Val.int (i : Nat)) [] (Itr 0 n) where
  go := fun ι' H' M' l hr _ i hi => by
    show i < n
    simpa using hi
  stop := fun ι' H' M' l hr _ => by
    show n ≤ _
    simp
  yld := fun ι' H' M' l hr _ i x H2 hi y => by
    obtain ⟨e1, rfl⟩ := y
    have hi2 : i < n := by simpa using hi
    rw [e1]
    refine ⟨Le.refl, hr, .int (i : Nat), by simp [hi2], ?_⟩
    have : (0 : Int) + (i : Nat) = (i : Nat) := by omega
    rw [this]
    exact .int _
end

/-- what is walked of a value -/
theorem wk_val {G : Gs} {ι : List Addr} {H : Hp} {M : Store} {x : Val} {v : V} {p : List Val × Gd} (hr : HR G ι M H) (r : VR G.K ι H x v) (e : itemsOf M x = some p) :
    (∃ a, v = .ref a ∧ (∃ us, SqL G.K H a us) ∧ Wk G ι H p.1 p.2 (Itl G.K a)) ∨ (∃ a, v = .ref a ∧ (∃ us, SqT G.K H a us) ∧ Wk G ι H p.1 p.2 (Itt G.K a)) ∨ ∃ s, v = .str s ∧ Wk G ι H p.1 p.2 (Its s) := by
  cases r with
  | non => cases e
  | bl b => cases e
  | int i => cases e
  | fn x => cases e
  | str s hs => cases e; exact .inr (.inr ⟨_, rfl, wk_str hs⟩)
  | tup hT rr => cases e; exact .inr (.inl ⟨_, rfl, ⟨_, hT⟩, wk_tup hT rr⟩)
  | frz hF rr =>
    cases e
    exact .inl ⟨_, rfl, ⟨_, hF.sq⟩, wk_list fun ι' H' M' l _ _ => ⟨_, (l.ext.fixed hF).sq, rr.mono l⟩⟩
  | @ref n a ha =>
    simp only [itemsOf] at e
    split at e
    · rename_i xs em
      cases e
      obtain ⟨us, q, _⟩ := hr.sq_at em ha
      refine .inl ⟨a, rfl, ⟨us, q⟩, wk_list fun ι' H' M' l hr' s => ?_⟩
      exact hr'.sq_at s.1 (l.at ha)
    · cases e
theorem wk_fresh {G : Gs} {H0 : Hp} {ι : List Addr} {H : Hp} {xs : List Val} {v : V} (f : Fresh G H0 ι H xs v) : ∃ a, v = .ref a ∧ (∃ us, SqL G.K H a us) ∧ Wk G ι H xs [] (Itl G.K a) := by
  obtain ⟨D, vs, rfl, hD, rv, np, h0⟩ := f
  exact ⟨D, rfl, ⟨vs, SqL.of hD⟩, wk_list fun ι' H' M' l _ _ => ⟨vs, SqL.of (l.keep _ _ hD np), rv.mono l⟩⟩
section
variable {X : Cx} {G : Gs} {W : WX} {cf : Cf} {ct : Ct} {lv : Nat}
/-- a value is walked by its kind -/
def iVal (K : PySem.W.Frag) (te : TE) : TI := fun σ H R => te σ H fun v H1 =>
  (∃ a, v = .ref a ∧ (∃ us, SqL K H1 a us) ∧ R (Itl K a) H1) ∨ (∃ a, v = .ref a ∧ (∃ us, SqT K H1 a us) ∧ R (Itt K a) H1) ∨ ∃ s, v = .str s ∧ R (Its s) H1
theorem pi_val {tg e : Expr} {te : TE} (he : PE X e te) : PI X tg e (iVal X.K te) := by
  refine ⟨fun pins s σ H R I h => ?_⟩
  refine thn (he.run pins s σ H _ I h) fun v s1 ⟨x, H1, I1, r1, q⟩ => ?_
  rcases q with ⟨a, rfl, ⟨us, hq⟩, q⟩ | ⟨a, rfl, ⟨us, hq⟩, q⟩ | ⟨z, rfl, q⟩
  · cases r1
    obtain ⟨its, rv, p, hz⟩ := I1.list hq
    exact wpAny_pyIter_list p.isList (pi_one (tk := s1.toks) I1 _ (turn_list a _) ⟨_, Heap.get?_push_size _ rfl, rfl, rfl⟩ q)
  · cases r1
    obtain ⟨its, rv, p, hz⟩ := I1.tuple hq
    exact wpAny_pyIter_tuple (show s1.heap.IsTuple a its.toArray from p) (pi_one (tk := s1.toks) I1 _ (turn_tuple a _) ⟨_, Heap.get?_push_size _ rfl, rfl, rfl⟩ q)
  · obtain ⟨t, rfl⟩ := r1
    cases ha : z.cps.all (· < 128)
    · exact wpAny_pyIter_wide ha (pi_one (tk := s1.toks) I1 _ (turn_str _ z t "str_iterator" (.inr rfl)) ⟨_, Heap.get?_push_size _ rfl, rfl, rfl⟩ q)
    · exact wpAny_pyIter_ascii ha (pi_one (tk := s1.toks) I1 _ (turn_str _ z t "str_ascii_iterator" (.inl rfl)) ⟨_, Heap.get?_push_size _ rfl, rfl, rfl⟩ q)
theorem _root_.L2.PI.imp {X : Cx} {tg e : Expr} {t t' : TI} (h : PI X tg e t) (i : ∀ σ H R, t' σ H R → t σ H R) : PI X tg e t' := ⟨fun ps s σ H R J q => h.run ps s σ H R J (i σ H R q)⟩
theorem s_seq (g : Good X G W cf ct lv) {tg e : Expr} {m : E} (he : PE X e (tE G W cf m)) : PI X tg e (tS G W cf (.seq m)) := by
  refine (pi_val he).imp fun σ H R q => ?_
  obtain ⟨ι, τ, M, hs, hr, q⟩ := q
  unfold evS at q
  refine ⟨ι, τ, M, hs, hr, PostS.of q fun x M1 ι1 H1 v _ l1 hr1 r1 q1 => ?_⟩
  cases e : itemsOf M1 x with
  | none => rw [e] at q1; exact q1.elim
  | some p =>
    rw [e] at q1
    have q2 := q1 ι1 H1
    rw [← g.gk]
    rcases wk_val hr1 r1 e with ⟨a, e1, u, w⟩ | ⟨a, e1, u, w⟩ | ⟨s, e1, w⟩
    · exact .inl ⟨a, e1, u, q2 _ Le.refl hr1 w⟩
    · exact .inr (.inl ⟨a, e1, u, q2 _ Le.refl hr1 w⟩)
    · exact .inr (.inr ⟨s, e1, q2 _ Le.refl hr1 w⟩)
theorem s_fresh (g : Good X G W cf ct lv) {tg e : Expr} {m : L} (he : PE X e (tL G W cf m)) : PI X tg e (tS G W cf (.fresh m)) := by
  refine (pi_val he).imp fun σ H R q => ?_
  obtain ⟨ι, τ, M, hs, hr, q⟩ := q
  unfold evS at q
  refine ⟨ι, τ, M, hs, hr, PostS.ofL q fun xs M1 ι1 H1 v _ l1 hr1 f q1 => ?_⟩
  rw [← g.gk]
  obtain ⟨a, e1, u, w⟩ := wk_fresh f
  exact .inl ⟨a, e1, u, q1 ι1 H1 _ Le.refl hr1 w⟩
theorem s_rng (g : Good X G W cf ct lv) {tg a : Expr} {m : E} {p pos : Pos} (ha : PE X a (tE G W cf m)) (hn : notStar a = true) (hg : glB ct.sc "range" = true) (hb : ct.gl "range" = some .blt) :
    PI X tg (.Call (.Name "range" p) [a] [] pos) (tS G W cf (.rng m)) := by
  refine (pi_range1 (glB_ok g.sc hg) (g.blt _ hb) (pa_cons ha pa_nil (star_ok hn)) (star_ok hn)).imp fun σ H R q => ?_
  obtain ⟨ι, τ, M, hs, hr, q⟩ := q
  unfold evS at q
  refine ⟨ι, τ, M, hs, hr, PostS.of q fun x M1 ι1 H1 v _ l1 hr1 r1 q1 => ?_⟩
  cases r1 with
  | int j =>
    simp only at q1
    split at q1
    · rename_i c
      have c' : j < 2 ^ 62 ∧ -(2 ^ 62) ≤ j := by simpa using c
      exact ⟨j, rfl, c'.2, c'.1, q1 ι1 H1 _ Le.refl hr1 (wk_rng _)⟩
    · exact q1.elim
  | _ => exact q1.elim

/-! ### a comprehension's clause -/
def tTs (G : Gs) (W : WX) (cf : Cf) (cs : Es) : TT := fun σ H Q => ∃ ι τ M, SR G ι H τ σ ∧ HR G ι M H ∧ Post G W σ ι H RI Q (evt cf cs τ M)
theorem ts_nil (g : Good X G W cf ct lv) : PTs X [] (tTs G W cf .nil) := by
  refine ⟨fun pins s σ H Q I h => pts_nil.run pins s σ H Q I ?_⟩
  obtain ⟨ι, τ, M, hs, hr, q⟩ := h
  unfold evt at q
  exact q.here hr rfl
theorem ts_one (g : Good X G W cf ct lv) {c : Expr} {m : E} (h : PT X c (tT G W cf m)) : PTs X [c] (tTs G W cf (.cons m .nil)) := by
  refine ⟨fun pins s σ H Q I h' => (pts_one h).run pins s σ H Q I ?_⟩
  obtain ⟨ι, τ, M, hs, hr, q⟩ := h'
  refine ⟨ι, τ, M, hs, hr, ?_⟩
  unfold evt at q
  simp only [evt] at q
  cases h1 : ev cf m τ M with
  | ok x M1 =>
    rw [h1] at q
    simp only [Res.bind_ok] at q ⊢
    cases h2 : truth M1 x with
    | none => rw [h2] at q; exact q
    | some k =>
      rw [h2] at q
      simp only [ofOpt, Res.bind_ok] at q ⊢
      cases k <;> exact q
  | exc => rw [h1] at q; exact q
  | bad => rw [h1] at q; exact q
/-- the context of a comprehension's block -/
def Ct.blk (ct : Ct) (scope : Scope) : Ct := ⟨relS scope ct.sc, ct.N, ct.gl, fun x => scope.names.lookup x == some .cell⟩
abbrev W0 : WX := fun _ _ _ _ => False
theorem Good.blk (g : Good X G W cf ct lv) (s : Shared) (H : Hp) (scope : Scope) (cl : List (Str × Addr)) (C : Addr) (fp : List Addr) : Good (X.blk s H scope (compEnvC scope cl C X.env) fp) G W0 cf (ct.blk scope) lv where
  gk := g.gk
  sc := by
    show relS scope X.env.scope = relS scope ct.sc
    rw [g.sc]
  N := g.N
  nd := g.nd
  calm := g.calm
  takes := takes_none5
  room := g.room
  gds := g.gds
  fnc := rfl
  fn := fun x i k h => let ⟨q⟩ := g.fn x i k h; ⟨q⟩
  gaf := g.gaf
  fnx := fun x k h => let ⟨q⟩ := g.fnx x k h; ⟨q⟩
  tabs := fun x h => let ⟨k, e, q⟩ := g.tabs x h; ⟨k, e, q.mg, q.dic, q.get, q.has⟩
  con := g.con
  blt := g.blt
  exc := fun x c h => let q := g.exc x c h; ⟨q.mg, q.inn, q.kp, q.is, q.ty, q.no⟩
  rep := g.rep
  exm := g.exm
  exs := g.exs
end
end Mi
end MiRun7S

section MiRun8S
set_option Elab.async false
set_option linter.all false
set_option maxRecDepth 100000
namespace Mi
open PySem L2
/-- what was free at the start may be changed -/
theorem Le.acc {ι ι' : List Addr} {H H' : Hp} (l : Le ι H ι' H') {D : Addr} {u : HO} (h0 : H D = none) (hm : L2.Mut (H' D)) : Le ι H ι' (upd H' D u) where
  more := l.more
  ext := l.ext.trans (Ext.mut hm)
  dom := fun a e => by
    by_cases q : a = D
    · rw [q, upd_same] at e; cases e
    · rw [upd_ne q] at e; exact l.dom a e
  keep := fun a v e n => by
    rw [upd_ne (ne_of_none e h0)]
    exact l.keep a v e n
theorem turns_noexc {f : Val → Store → Res (Option Val)} {all : List Val} {g : Gd} : ∀ {xs : List Val} {M : Store} {x : Exc} {M' : Store}, turns f all g xs M ≠ .exc x M'
  | [], M, x, M' => by
    unfold turns
    split <;> intro h <;> cases h
  | y :: ys, M, x, M' => by
    unfold turns
    split
    · cases h : f y M with
      | ok a M1 =>
        simp only [Res.calm_ok, Res.bind_ok]
        cases h2 : turns f all g ys M1 with
        | ok b M2 => intro h; cases h
        | exc e M2 => exact absurd h2 turns_noexc
        | bad => intro h; cases h
      | exc e M1 => intro h; cases h
      | bad => intro h; cases h
    · intro h; cases h
/-- one turn of a comprehension -/
noncomputable def lcTurn (cf : Cf) (t : Tg) (cs : Es) (e : E) (τ : St) : Val → Store → Res (Option Val) := fun x M2 => match put t x τ with
  | some σ2 => (evt cf cs σ2 M2).bind fun k M3 => if k then (ev cf e σ2 M3).bind fun y M4 => .ok (some y) M4 else .ok none M3
  | none => .bad
def lcEnd (acc ys : List Val) (M : Store) : Res (List Val) := if (acc ++ ys).length ≤ LIM then .ok (acc ++ ys) M else .bad
section
variable {X : Cx} {G : Gs} {W : WX} {cf : Cf} {ct : Ct} {lv : Nat}
theorem lc_run {Xb : Cx} {σ : L2.St} {ι1 : List Addr} {H1 : Hp} {M1 : Store} {Q : VK} {own : List Nat} {t : Tg} {cs : Es} {e : E} {τ : St} {xs : List Val} {gd : Gd} {J : It} (hs : SR G ι1 H1 τ σ) (hr : HR G ι1 M1 H1) (w : Wk G ι1 H1 xs gd J)
    (ht : ∀ i ∈ t.slots, i ∈ own) (q : PostL G W σ ι1 H1 Q ((turns (lcTurn cf t cs e (Mi.wiped τ own)) xs gd xs M1).bind fun ys M5 => lcEnd [] ys M5)) {D : Addr} (hD : H1 D = none) :
    ∃ Wv : Nat → Nat → Hp → Prop, (∃ m, Wv 0 m (upd H1 D (.lst []))) ∧ ∀ i m H, Wv i m H →
      (J.stop i H ∧ Q (.ref D) H) ∨ (J.go i H ∧ ∃ Nx : Hp → Prop, (∀ H', Nx H' → ∃ m', m' < m ∧ Wv (i + 1) m' H') ∧ ∀ x H', J.yld i H x H' → gT G t x (L2.wipe σ own) H' fun σ2 H2 => L2.wipe σ2 own = L2.wipe σ own ∧ tTs G W0 cf cs σ2 H2 fun b H3 =>
        if b = true then tE G W0 cf e σ2 H3 fun y H4 => ∃ acc, H4 D = some (.lst acc) ∧ acc.length < sizeLine ∧ Nx (upd H4 D (.lst (acc ++ [y]))) else Nx H3) := by
  let f := lcTurn cf t cs e (Mi.wiped τ own)
  let Pv : Nat → Hp → Prop := fun i H => ∃ ι M acc vs, Le ι1 H1 ι H ∧ HR G ι M H ∧ D ∉ ι ∧ H D = some (.lst vs) ∧ VRs G.K ι H acc vs ∧ PostL G W σ ι1 H1 Q ((turns f xs gd (xs.drop i) M).bind fun ys M5 => lcEnd acc ys M5)
  refine ⟨fun i m H => m = xs.length - i ∧ i ≤ xs.length ∧ Pv i H, ⟨xs.length, by simp, Nat.zero_le _, ι1, M1, [], [], Le.new hD, hr.new hD, hr.ne hD, upd_same, .nil, by simpa using q⟩, ?_⟩
  rintro i m H ⟨rfl, hi, ι, M, acc, vs, l, hr2, nD, eD, ra, q2⟩
  by_cases hlt : i < xs.length
  · have ed : xs.drop i = xs[i] :: xs.drop (i + 1) := List.drop_eq_getElem_cons hlt
    rw [ed] at q2
    unfold turns at q2
    split at q2
    · rename_i hst
      refine .inr ⟨w.go ι H M l hr2 hst i hlt, Pv (i + 1), fun H' p' => ⟨xs.length - (i + 1), by omega, rfl, hlt, p'⟩, fun x H' y => ?_⟩
      obtain ⟨ly, hry, v, ev1, rv⟩ := w.yld ι H M l hr2 hst i x H' hlt y
      replace l := l.trans ly
      replace eD := ly.keep _ _ eD nD
      replace ra := ra.mono ly
      replace hr2 := hry
      have ev2 : v = xs[i] := by rw [List.getElem?_eq_getElem hlt] at ev1; exact (Option.some.inj ev1).symm
      subst ev2
      cases hp : put t xs[i] (Mi.wiped τ own) with
      | none =>
        have hf : f xs[i] M = .bad := by
          show lcTurn _ _ _ _ _ _ _ = _
          unfold lcTurn
          rw [hp]
        rw [hf] at q2
        exact q2.elim
      | some τ2 =>
        have hf : f xs[i] M = (evt cf cs τ2 M).bind fun k M3 => if k then (ev cf e τ2 M3).bind fun y M4 => .ok (some y) M4 else .ok none M3 := by
          show lcTurn _ _ _ _ _ _ _ = _
          unfold lcTurn
          rw [hp]
        rw [hf] at q2
        refine put_ok hp rv ((hs.mono l).wiped own) fun σ2 hs2 hw => ⟨(hw own ht).trans wipe_wipe, ι, τ2, M, hs2, hr2, ?_⟩
        cases h1 : evt cf cs τ2 M with
        | bad => rw [h1] at q2; exact q2.elim
        | exc ex M3 => rw [h1] at q2; exact q2.elim
        | ok k M3 =>
          rw [h1] at q2
          simp only [Res.bind_ok] at q2
          rintro ι3 H3 b l3 hr3 rfl
          have nD3 : D ∉ ι3 := fun z => by
            obtain ⟨tl, rfl, ft⟩ := l3.more
            rcases List.mem_append.mp z with z | z
            · exact nD z
            · rw [ft D z] at eD; cases eD
          have eD3 : H3 D = some (.lst vs) := l3.keep _ _ eD nD
          cases b with
          | false =>
            simp only [Bool.false_eq_true, if_false, Res.calm_ok, Res.bind_ok] at q2 ⊢
            refine ⟨ι3, M3, acc, vs, l.trans l3, hr3, nD3, eD3, ra.mono l3, ?_⟩
            have q3 : PostL G W σ ι1 H1 Q ((turns f xs gd (xs.drop (i + 1)) M3).bind fun ys M5 => lcEnd acc ys M5) := by
              cases h2 : turns f xs gd (xs.drop (i + 1)) M3 <;> (rw [h2] at q2; exact q2)
            exact q3
          | true =>
            simp only [if_true] at q2 ⊢
            refine ⟨ι3, τ2, M3, hs2.mono l3, hr3, ?_⟩
            cases h2 : ev cf e τ2 M3 with
            | bad => rw [h2] at q2; exact q2.elim
            | exc ex M4 => rw [h2] at q2; exact q2.elim
            | ok y M4 =>
              rw [h2] at q2
              simp only [Res.bind_ok, Res.calm_ok] at q2
              intro ι4 H4 yv l4 hr4 ry
              have nD4 : D ∉ ι4 := fun z => by
                obtain ⟨tl, rfl, ft⟩ := l4.more
                rcases List.mem_append.mp z with z | z
                · exact nD3 z
                · rw [ft D z] at eD3; cases eD3
              have eD4 : H4 D = some (.lst vs) := l4.keep _ _ eD3 nD3
              have q3 : PostL G W σ ι1 H1 Q ((turns f xs gd (xs.drop (i + 1)) M4).bind fun ys M5 => lcEnd (acc ++ [y]) ys M5) := by
                cases h3 : turns f xs gd (xs.drop (i + 1)) M4 with
                | bad => rw [h3] at q2; exact q2
                | exc ex M5 => exact absurd h3 turns_noexc
                | ok ys M5 =>
                  rw [h3] at q2
                  simp only [Res.bind_ok] at q2 ⊢
                  have e2 : acc ++ [y] ++ ys = acc ++ y :: ys := by simp
                  unfold lcEnd at q2 ⊢
                  rw [e2]
                  exact q2
              have hl : acc.length < LIM := by
                cases h3 : turns f xs gd (xs.drop (i + 1)) M4 with
                | bad => rw [h3] at q3; exact q3.elim
                | exc ex M5 => exact absurd h3 turns_noexc
                | ok ys M5 =>
                  rw [h3] at q3
                  simp only [Res.bind_ok] at q3
                  unfold lcEnd at q3
                  split at q3
                  · rename_i c
                    simp at c
                    omega
                  · exact q3.elim
              have mD : L2.Mut (H4 D) := mut_lst eD4
              refine ⟨vs, eD4, by rw [← ((ra.mono l3).mono l4).length, ← lim_eq]; exact hl, ι4, M4, acc ++ [y], vs ++ [yv], (l.trans (l3.trans l4)).acc hD mD, hr4.other mD nD4, nD4, upd_same, ?_, q3⟩
              exact VRs.ext (Ext.mut mD) (((ra.mono l3).mono l4).append (.cons ry .nil))
    · exact q2.elim
  · have e1 : i = xs.length := by omega
    subst e1
    rw [List.drop_length] at q2
    unfold turns at q2
    split at q2
    · rename_i hst
      simp only [Res.bind_ok] at q2
      unfold lcEnd at q2
      split at q2
      · rw [List.append_nil] at q2
        exact .inl ⟨w.stop ι H M l hr2 hst, q2 ι H (.ref D) l hr2 ⟨D, vs, rfl, eD, ra, nD, hD⟩⟩
      · exact q2.elim
    · exact q2.elim
theorem evL_comp {own : List Nat} {t : Tg} {src : Src} {cs : Es} {e : E} {τ : St} {M : Store} : evL cf (.comp own t src cs e) τ M = (evS cf src τ M).bind fun p M1 => (turns (lcTurn cf t cs e (Mi.wiped τ own)) p.1 p.2 p.1 M1).bind fun ys M5 => lcEnd [] ys M5 := by
  unfold evL
  rfl
theorem lc_read (g : Good X G W cf ct lv) {tg iter : Expr} {own : List (Str × Nat)} {src : Src} {t : Tg} {cs : Es} {e : E} (ht : t.slots.all (fun i => (own.map (·.2)).contains i) = true) {σ : L2.St} {H : Hp} {Q : VK}
    (q : tL G W cf (.comp (own.map (·.2)) t src cs e) σ H Q) : tLc (tS G W cf src) (gT G t) (tTs G W0 cf cs) (tE G W0 cf e) (own.map (·.2)) σ H Q := by
  obtain ⟨ι, τ, M, hs, hr, q⟩ := q
  rw [evL_comp] at q
  refine ⟨ι, τ, M, hs, hr, ?_⟩
  cases h : evS cf src τ M with
  | bad => rw [h] at q; exact q.elim
  | exc x M1 => rw [h] at q; exact q
  | ok p M1 =>
    rw [h] at q
    simp only [Res.bind_ok] at q
    intro ι1 H1 J l1 hr1 w D hD
    exact lc_run (Xb := X) (hs.mono l1) hr1 w (fun i hi => by simpa using List.all_eq_true.mp ht i hi) (q.mono l1) hD
theorem l_comp (g : Good X G W cf ct lv) {elt tg iter : Expr} {ifs : List Expr} {scope : Scope} {own : List (Str × Nat)} {pos : Pos} {src : Src} {t : Tg} {cs : Es} {e : E} (hi : PI X tg iter (tS G W cf src)) (ok : blkC ct.N ct.sc scope own = true) (ht : t.slots.all (fun i => (own.map (·.2)).contains i) = true)
    (hg : ∀ (s : Shared) (H : Hp) (C : Addr) (cl : List (Str × Addr)) (fp : List Addr), PG (X.blk s H scope (compEnvC scope cl C X.env) fp) tg (gT G t))
    (hts : ∀ (s : Shared) (H : Hp) (C : Addr) (cl : List (Str × Addr)) (fp : List Addr), PTs (X.blk s H scope (compEnvC scope cl C X.env) fp) ifs (tTs G W0 cf cs))
    (he : ∀ (s : Shared) (H : Hp) (C : Addr) (cl : List (Str × Addr)) (fp : List Addr), PE (X.blk s H scope (compEnvC scope cl C X.env) fp) elt (tE G W0 cf e)) (hf : ∀ x, foldedSetIterable iter X.env x = pure x) :
    PE X (.ListComp elt [⟨tg, iter, ifs, 0⟩] scope pos) (tL G W cf (.comp (own.map (·.2)) t src cs e)) :=
  (pe_lc g.calm g.nd hi (blkOk_by (by rw [g.N, g.sc]; exact ok)) hg hts he hf).imp fun σ H Q q => lc_read (tg := tg) (iter := iter) g ht q
end
end Mi
end MiRun8S

section MiRun9S
set_option Elab.async false
set_option linter.all false
set_option maxRecDepth 100000
namespace Mi
open PySem L2

/-! ### statements -/
def PostO (G : Gs) (W : WX) (ι : List Addr) (H : Hp) (D : Ends) : Out → Prop
  | .nx τ M => ∀ ι' H' σ', Le ι H ι' H' → HR G ι' M H' → SR G ι' H' τ σ' → D.nx σ' H'
  | .ret v M => ∀ ι' H' w, Le ι H ι' H' → HR G ι' M H' → VR G.K ι' H' v w → D.rt w H'
  | .brk τ M => ∀ ι' H' σ', Le ι H ι' H' → HR G ι' M H' → SR G ι' H' τ σ' → D.bk σ' H'
  | .cnt τ M => ∀ ι' H' σ', Le ι H ι' H' → HR G ι' M H' → SR G ι' H' τ σ' → D.ct σ' H'
  | .exc x τ M => ∀ ι' H' σ' cls d, Le ι H ι' H' → HR G ι' M H' → SR G ι' H' τ σ' → XR G ι' H' x cls d → W cls d σ' H'
  | .bad => False
def tSt (G : Gs) (W : WX) (cf : Cf) (m : S) : TS := fun D σ H => ∃ ι τ M, SR G ι H τ σ ∧ HR G ι M H ∧ PostO G W ι H D (ex cf m τ M)
def tSs (G : Gs) (W : WX) (cf : Cf) (m : Ss) : TS := fun D σ H => ∃ ι τ M, SR G ι H τ σ ∧ HR G ι M H ∧ PostO G W ι H D (exs cf m τ M)
section
variable {G : Gs} {W : WX} {σ : L2.St} {ι : List Addr} {H : Hp} {M : Store} {D : Ends}
theorem PostO.mono {r : Out} {ι1 : List Addr} {H1 : Hp} (h : PostO G W ι H D r) (l : Le ι H ι1 H1) : PostO G W ι1 H1 D r := by
  cases r with
  | nx τ M => exact fun ι' H' s l' => h ι' H' s (l.trans l')
  | ret v M => exact fun ι' H' s l' => h ι' H' s (l.trans l')
  | brk τ M => exact fun ι' H' s l' => h ι' H' s (l.trans l')
  | cnt τ M => exact fun ι' H' s l' => h ι' H' s (l.trans l')
  | exc x τ M => exact fun ι' H' s c d l' => h ι' H' s c d (l.trans l')
  | bad => exact h
theorem PostO.on {α β : Type} {R : List Addr → Hp → α → β → Prop} {Q : β → Hp → Prop} {τ : St} {r : Res α} {f : α → Store → Out} (h : PostO G W ι H D (Out.on r τ f)) (hs : SR G ι H τ σ)
    (k : ∀ a M1 ι1 H1 b, r = .ok a M1 → Le ι H ι1 H1 → HR G ι1 M1 H1 → R ι1 H1 a b → PostO G W ι1 H1 D (f a M1) → Q b H1) : Post G W σ ι H R Q r := by
  cases r with
  | ok a M => exact fun ι' H' b l hr rr => k a M ι' H' b rfl l hr rr (PostO.mono h l)
  | exc x M => exact fun ι' H' c d l hr xr => h ι' H' σ c d l hr (hs.mono l) xr
  | bad => exact h
theorem PostO.onS {Q : It → Hp → Prop} {τ : St} {r : Res (List Val × Gd)} {f : List Val × Gd → Store → Out} (h : PostO G W ι H D (Out.on r τ f)) (hs : SR G ι H τ σ)
    (k : ∀ p M1 ι1 H1 J, r = .ok p M1 → Le ι H ι1 H1 → HR G ι1 M1 H1 → Wk G ι1 H1 p.1 p.2 J → PostO G W ι1 H1 D (f p M1) → Q J H1) : PostS G W σ ι H Q r := by
  cases r with
  | ok a M => exact fun ι' H' b l hr rr => k a M ι' H' b rfl l hr rr (PostO.mono h l)
  | exc x M => exact fun ι' H' c d l hr xr => h ι' H' σ c d l hr (hs.mono l) xr
  | bad => exact h
end
/-- no comprehension -/
def notLc : Expr → Bool
  | .ListComp _ _ _ _ => false
  | .SetComp _ _ _ _ => false
  | .DictComp _ _ _ _ _ => false
  | _ => true
theorem notLc_ok {e : Expr} {t : Option Expr} {l : Nat} {env : Env} (h : notLc e = true) : swapsWith e t l env = pure false := by
  cases e <;> first | rfl | cases h
def notTup : Expr → Bool
  | .Tuple _ _ _ => false
  | _ => true
theorem notTup_ok {ts : List Expr} {e : Expr} {env : Env} (h : notTup e = true) : swappedStores ts e env = pure none := by
  unfold swappedStores
  cases e with
  | Tuple => cases h
  | _ =>
    cases ts with
    | nil => rfl
    | cons t ts => cases ts with
      | nil => cases t <;> rfl
      | cons u us => cases t <;> rfl
section
variable {X : Cx} {G : Gs} {W : WX} {cf : Cf} {ct : Ct} {lv : Nat}
theorem st_nil : PSs X [] (tSs G W cf .nil) := pss_nil.imp fun D σ H q => by
  obtain ⟨ι, τ, M, hs, hr, q⟩ := q
  unfold exs at q
  exact q ι H σ Le.refl hr hs
theorem st_cons {s : Stmt} {ss : List Stmt} {m : S} {ms : Ss} (h1 : PS X s (tSt G W cf m)) (h2 : PSs X ss (tSs G W cf ms)) : PSs X (s :: ss) (tSs G W cf (.cons m ms)) := by
  refine (pss_cons h1 h2).imp fun D σ H q => ?_
  obtain ⟨ι, τ, M, hs, hr, q⟩ := q
  unfold exs at q
  refine ⟨ι, τ, M, hs, hr, ?_⟩
  cases h : ex cf m τ M with
  | nx τ1 M1 =>
    rw [h] at q
    exact fun ι' H' σ' l hr' hs' => ⟨ι', τ1, M1, hs', hr', PostO.mono q l⟩
  | ret v M1 => rw [h] at q; exact q
  | brk τ1 M1 => rw [h] at q; exact q
  | cnt τ1 M1 => rw [h] at q; exact q
  | exc x τ1 M1 => rw [h] at q; exact q
  | bad => rw [h] at q; exact q
theorem st_asg (g : Good X G W cf ct lv) {i : Nat} {x : Str} {e : Expr} {m : E} {p pos : Pos} (hN : ct.N[i]? = some x) (hst : stoB ct x = true) (he : PE X e (tE G W cf m)) (hl : notLc e = true) : PS X (.Assign [.Name x p] e pos) (tSt G W cf (.set i m)) := by
  refine (ps_set g.nd (by rw [g.N]; exact hN) (g.sto hst).1 he (notLc_ok hl) (g.sto hst).2).imp fun D σ H q => ?_
  obtain ⟨ι, τ, M, hs, hr, q⟩ := q
  unfold ex at q
  refine ⟨ι, τ, M, hs, hr, PostO.on q hs fun v M1 ι1 H1 w _ l1 hr1 r1 q1 => ?_⟩
  exact q1 ι1 H1 _ Le.refl hr1 ((hs.mono l1).set r1 i)
theorem st_unp (g : Good X G W cf ct lv) {is : List Nat} {es : List Expr} {k : Nat} {e : Expr} {m : E} {p pos : Pos} (hn : namesAt ct es = some is) (he : PE X e (tE G W cf m)) (hl : notLc e = true) (ht : notTup e = true) : PS X (.Assign [.Tuple es k p] e pos) (tSt G W cf (.unp is m)) := by
  have hsole : swapsWithSole [.Tuple es k p] e pos.line X.env = pure false := by unfold swapsWithSole; exact notLc_ok hl
  refine (ps_asg (pos := pos) he (g_many g hn) hsole (notTup_ok ht) rfl).imp fun D σ H q => ?_
  obtain ⟨ι, τ, M, hs, hr, q⟩ := q
  unfold ex at q
  refine ⟨ι, τ, M, hs, hr, PostO.on q hs fun v M1 ι1 H1 w _ l1 hr1 r1 q1 => ?_⟩
  split at q1
  · rename_i τ2 hp
    exact put_ok hp r1 (hs.mono l1) fun σ2 hs2 _ => q1 ι1 H1 σ2 Le.refl hr1 hs2
  · exact q1.elim
def isLocal (ct : Ct) (x : Str) : Bool := match ct.sc.names.lookup x with
  | some .local => true
  | _ => false
theorem isLocal_ok {x : Str} (h : isLocal ct x = true) : ct.sc.names.lookup x = some .local := by
  unfold isLocal at h
  split at h
  · assumption
  · cases h
/-- two names on one row stored from a pair -/
def parB (ct : Ct) (x y : Str) (px py : Pos) (a b : Expr) : Bool :=
  isLocal ct x && isLocal ct y && (x != y) && (px.line == py.line) && notStar a && notStar b && !([a, b].all (foldedForSure 8)) && !([a, b].all (constantsAlone 8)) && (match ct.sc.kind with | .function => true | _ => false)
theorem parB_ok (g : Good X G W cf ct lv) {x y : Str} {px py pt p2 : Pos} {kt k2 : Nat} {a b : Expr} (h : parB ct x y px py a b = true) :
    swappedStores [.Tuple [.Name x px, .Name y py] kt pt] (.Tuple [a, b] k2 p2) X.env = pure (some [x, y]) := by
  unfold parB at h
  simp only [Bool.and_eq_true] at h
  obtain ⟨⟨⟨⟨⟨⟨⟨⟨h1, h2⟩, h3⟩, h4⟩, h5⟩, h6⟩, h7⟩, h8⟩, h9⟩ := h
  have kx : X.env.kindOf x = some .local := by
    show X.env.scope.names.lookup x = _
    rw [g.sc]; exact isLocal_ok h1
  have ky : X.env.kindOf y = some .local := by
    show X.env.scope.names.lookup y = _
    rw [g.sc]; exact isLocal_ok h2
  have kk : X.env.blockKind = .function := by
    unfold Env.blockKind
    rw [g.sc]
    split at h9
    · rename_i e; rw [e]; rfl
    · cases h9
  have hxy : (x == y) = false := by simpa using h3
  have h4' : py.line = px.line := by
    have : px.line = py.line := by simpa using h4
    exact this.symm
  have hyx : (y == x) = false := by
    rw [beq_eq_false_iff_ne] at hxy ⊢
    exact fun e => hxy e.symm
  have hd : [x, y].eraseDups = [x, y] := by
    rw [List.eraseDups_cons]
    simp [hyx, List.eraseDups_cons]
  unfold swappedStores
  dsimp only
  rw [if_neg (by rw [kk]; intro z; cases z)]
  rw [if_neg (by
    intro z
    obtain ⟨e, he, ze⟩ := List.any_eq_true.mp z
    have hn : notStar e = true := by
      rcases List.mem_cons.mp he with rfl | he
      · exact h5
      · rw [List.mem_singleton.mp he]; exact h6
    cases e <;> first | (cases hn; done) | (cases ze; done))]
  simp only [List.filterMap_cons, List.filterMap_nil, kx, ky, h4', Expr.pos, List.head?_cons, Option.map_some, Option.getD_some, beq_self_eq_true, Bool.and_self, if_true, hd]
  rw [if_neg (by intro z; cases z), if_neg (by intro z; rw [z] at h7; cases h7), if_neg (by intro z; rw [z] at h8; cases h8)]
theorem st_par (g : Good X G W cf ct lv) {i j : Nat} {x y : Str} {a b : Expr} {ma mb : E} {px py pt p2 pos : Pos} {kt k2 : Nat} (hi : ct.N[i]? = some x) (hj : ct.N[j]? = some y) (ha : PE X a (tE G W cf ma)) (hb : PE X b (tE G W cf mb)) (hp : parB ct x y px py a b = true) :
    PS X (.Assign [.Tuple [.Name x px, .Name y py] kt pt] (.Tuple [a, b] k2 p2) pos) (tSt G W cf (.par i j ma mb)) := by
  have hsw := parB_ok (kt := kt) (pt := pt) (k2 := k2) (p2 := p2) g hp
  unfold parB at hp
  simp only [Bool.and_eq_true] at hp
  obtain ⟨⟨⟨⟨⟨⟨⟨⟨h1, h2⟩, h3⟩, h4⟩, h5⟩, h6⟩, h7⟩, h8⟩, h9⟩ := hp
  have hij : i ≠ j := fun e => by
    subst e
    rw [hi] at hj
    have : x = y := Option.some.inj hj
    simp [this] at h3
  refine (ps_par g.calm g.nd (by rw [g.N]; exact hi) (by rw [g.N]; exact hj) hij (by rw [g.sc]; exact isLocal_ok h1) (by rw [g.sc]; exact isLocal_ok h2) (pa_cons ha (pa_cons hb pa_nil (star_ok h6)) (star_ok h5)) hsw rfl).imp fun D σ H q => ?_
  obtain ⟨ι, τ, M, hs, hr, q⟩ := q
  unfold ex at q
  refine ⟨ι, τ, M, hs, hr, PostO.on q hs fun v M1 ι1 H1 w _ l1 hr1 r1 q1 => ?_⟩
  refine ⟨ι1, τ, M1, hs.mono l1, hr1, PostO.on q1 (hs.mono l1) fun v2 M2 ι2 H2 w2 _ l2 hr2 r2 q2 => ?_⟩
  exact ⟨w, w2, rfl, q2 ι2 H2 _ Le.refl hr2 (((hs.mono (l1.trans l2)).set (r1.mono l2) i).set r2 j)⟩
theorem st_expr (g : Good X G W cf ct lv) {e : Expr} {m : E} {pos : Pos} (he : PE X e (tE G W cf m)) (hl : notLc e = true) : PS X (.Expr e pos) (tSt G W cf (.expr m)) := by
  refine (ps_expr he (notLc_ok hl)).imp fun D σ H q => ?_
  obtain ⟨ι, τ, M, hs, hr, q⟩ := q
  unfold ex at q
  refine ⟨ι, τ, M, hs, hr, PostO.on q hs fun v M1 ι1 H1 w _ l1 hr1 r1 q1 => ?_⟩
  exact q1 ι1 H1 _ Le.refl hr1 (hs.mono l1)
theorem st_doc {x : Str} {j : Nat} {p pos : Pos} : PS X (.Expr (.Constant (.str x) j p) pos) (tSt G W cf .pass) := ps_doc.imp fun D σ H q => by
  obtain ⟨ι, τ, M, hs, hr, q⟩ := q
  unfold ex at q
  exact q ι H σ Le.refl hr hs
theorem st_ret {e : Expr} {m : E} {pos : Pos} (he : PE X e (tE G W cf m)) : PS X (.Return (some e) pos) (tSt G W cf (.ret m)) := by
  refine (ps_ret he).imp fun D σ H q => ?_
  obtain ⟨ι, τ, M, hs, hr, q⟩ := q
  unfold ex at q
  refine ⟨ι, τ, M, hs, hr, PostO.on q hs fun v M1 ι1 H1 w _ l1 hr1 r1 q1 => ?_⟩
  exact q1 ι1 H1 _ Le.refl hr1 r1
theorem st_retN {pos : Pos} : PS X (.Return none pos) (tSt G W cf .retN) := ps_retN.imp fun D σ H q => by
  obtain ⟨ι, τ, M, hs, hr, q⟩ := q
  unfold ex at q
  exact q ι H _ Le.refl hr .non
theorem st_pass {pos : Pos} : PS X (.Pass pos) (tSt G W cf .pass) := ps_pass.imp fun D σ H q => by
  obtain ⟨ι, τ, M, hs, hr, q⟩ := q
  unfold ex at q
  exact q ι H σ Le.refl hr hs
theorem st_brk {pos : Pos} : PS X (.Break pos) (tSt G W cf .brk) := ps_break.imp fun D σ H q => by
  obtain ⟨ι, τ, M, hs, hr, q⟩ := q
  unfold ex at q
  exact q ι H σ Le.refl hr hs
theorem st_cnt {pos : Pos} : PS X (.Continue pos) (tSt G W cf .cnt) := ps_continue.imp fun D σ H q => by
  obtain ⟨ι, τ, M, hs, hr, q⟩ := q
  unfold ex at q
  exact q ι H σ Le.refl hr hs
theorem st_if {c : Expr} {a b : List Stmt} {mc : E} {ma mb : Ss} {pos : Pos} (hc : PT X c (tT G W cf mc)) (ha : PSs X a (tSs G W cf ma)) (hb : PSs X b (tSs G W cf mb)) : PS X (.If c a b pos) (tSt G W cf (.ite mc ma mb)) := by
  refine (ps_if hc ha hb).imp fun D σ H q => ?_
  obtain ⟨ι, τ, M, hs, hr, q⟩ := q
  unfold ex at q
  refine ⟨ι, τ, M, hs, hr, ?_⟩
  have q' : PostO G W ι H D (Out.on ((ev cf mc τ M).bind fun x M1 => ofOpt (truth M1 x) M1) τ fun k M2 => if k then exs cf ma τ M2 else exs cf mb τ M2) := by
    cases h : ev cf mc τ M with
    | ok x M1 => rw [h] at q; exact q
    | exc x M1 => rw [h] at q; exact q
    | bad => rw [h] at q; exact q
  refine PostO.on q' hs fun v M1 ι1 H1 w _ l1 hr1 r1 q1 => ?_
  subst r1
  cases w with
  | true => exact ⟨ι1, τ, M1, hs.mono l1, hr1, q1⟩
  | false => exact ⟨ι1, τ, M1, hs.mono l1, hr1, q1⟩
end
end Mi
end MiRun9S

section MiRun10S
set_option Elab.async false
set_option linter.all false
set_option maxRecDepth 100000
namespace Mi
open PySem L2
section
variable {X : Cx} {G : Gs} {W : WX} {cf : Cf} {ct : Ct} {lv : Nat}
theorem sub_assign {o i : Expr} {pos : Pos} {env : Env} (h : notSlice i = true) : ∀ v, assign (.Subscript o i pos) env v = (do
      let ov ← holding [v] (eval o env)
      let iv ← holding [v, ov] (eval i env)
      standAt pos
      holding [v, ov, iv] (setItem ov iv v)
      release [v, ov, iv] []) := by
  intro v
  cases i <;> first | rfl | cases h
/-- o[i] = z, by values -/
def rSetM (G : Gs) : TSet := fun o i v H Q => ∃ ι M x y z, HR G ι M H ∧ VR G.K ι H x o ∧ VR G.K ι H y i ∧ VR G.K ι H z v ∧ (match x, y with
    | .ref n, y => match M[n]? with
      | some (.lst xs) => (match y with
        | .int k => (match place xs.length k with
          | some j => ∀ ι' H', Le ι H ι' H' → HR G ι' (M.set n (.lst (xs.set j z))) H' → Q H'
          | none => False)
        | _ => False)
      | some (.dic kvs) => if keyV y && decide (kvs.length < LIM) then ∀ ι' H', Le ι H ι' H' → HR G ι' (M.set n (.dic (dicPut kvs y z))) H' → Q H' else False
      | _ => False
    | _, _ => False)
theorem set_run (gk : G.K = X.K) (hu : X.A.units + 1 < cLine) : PSet X (rSetM G) := by
  obtain ⟨K, cl⟩ := G
  obtain rfl : K = X.K := gk
  rintro ps s σ H o i v ov iv u Q I ro ri rv ⟨ι, M, x, y, z, hr, rx, ry, rz, q⟩
  cases rx with
  | @ref n a ha =>
    simp only at q
    split at q
    · rename_i xs em
      cases ry with
      | int k =>
        simp only at q
        split at q
        · rename_i j hj
          obtain ⟨vs, e1, rvs⟩ := hr.list_at em ha
          obtain ⟨h1, h2⟩ := hr.set em ha e1 (rvs.set rz j)
          exact set_list ps s σ H _ _ v ov iv u Q I ro ri rv ⟨a, vs, k, j, rfl, rfl, e1, by rw [← rvs.length, ← place_eq]; exact hj, q ι _ h2 h1⟩
        · exact q.elim
      | _ => exact q.elim
    · rename_i kvs em
      split at q
      · rename_i c
        obtain ⟨c1, c2⟩ := Bool.and_eq_true_iff.mp c
        obtain ⟨ws, e1, rw1⟩ := hr.dic_at em ha
        obtain ⟨k, hk, rfl⟩ := key_ok ry c1
        obtain ⟨h1, h2⟩ := hr.setD em ha e1 (rw1.put hk ry rz)
        refine set_dict hu ps s σ H _ _ v ov iv u Q I ro ri rv ⟨a, _, rfl, DPut.k e1 ?_, q ι _ h2 h1⟩
        rw [← rw1.len, ← lim_eq]
        exact of_decide_eq_true c2
      · exact q.elim
    · exact q.elim
  | _ => exact q.elim
theorem st_six (g : Good X G W cf ct lv) {o i e : Expr} {mo mi me : E} {p pos : Pos} (ho : PE X o (tE G W cf mo)) (hi : PE X i (tE G W cf mi)) (he : PE X e (tE G W cf me)) (hl : notLc e = true) (ht : notTup e = true) (hn : notSlice i = true) : PS X (.Assign [.Subscript o i p] e pos) (tSt G W cf (.six mo mi me)) := by
  have hsole : swapsWithSole [.Subscript o i p] e pos.line X.env = pure false := by unfold swapsWithSole; exact notLc_ok hl
  refine (ps_asg (pos := pos) he (pg_sub (pos := p) ho hi (set_run g.gk g.hu1) (sub_assign hn)) hsole (notTup_ok ht) rfl).imp fun D σ H q => ?_
  obtain ⟨ι, τ, M, hs, hr, q⟩ := q
  unfold ex at q
  refine ⟨ι, τ, M, hs, hr, PostO.on q hs fun z M1 ι1 H1 w _ l1 hr1 r1 q1 => ?_⟩
  refine ⟨ι1, τ, M1, hs.mono l1, hr1, PostO.on q1 (hs.mono l1) fun x M2 ι2 H2 v _ l2 hr2 r2 q2 => ?_⟩
  refine ⟨ι2, τ, M2, hs.mono (l1.trans l2), hr2, PostO.on q2 (hs.mono (l1.trans l2)) fun y M3 ι3 H3 u _ l3 hr3 r3 q3 => ?_⟩
  refine ⟨ι3, M3, x, y, z, hr3, r2.mono l3, r3, r1.mono (l2.trans l3), ?_⟩
  have fin : ∀ M4, PostO G W ι3 H3 D (.nx τ M4) → ∀ ι' H', Le ι3 H3 ι' H' → HR G ι' M4 H' → D.nx σ H' := fun M4 q4 ι' H' l hr' => q4 ι' H' σ l hr' (hs.mono ((l1.trans (l2.trans l3)).trans l))
  cases x with
  | ref n =>
    simp only at q3 ⊢
    cases em : M3[n]? with
    | none => rw [em] at q3; exact q3.elim
    | some ob =>
      rw [em] at q3
      cases ob with
      | lst xs =>
        cases y with
        | int k =>
          simp only at q3 ⊢
          cases hj : place xs.length k with
          | none => rw [hj] at q3; exact q3.elim
          | some j => rw [hj] at q3; exact fin _ q3
        | _ => exact q3.elim
      | dic kvs =>
        simp only at q3 ⊢
        split at q3
        · rename_i c
          rw [if_pos c]
          exact fin _ q3
        · exact q3.elim
      | dit c => exact q3.elim
      | exv c => exact q3.elim
  | _ => exact q3.elim

/-! ### loops -/
theorem st_for (g : Good X G W cf ct lv) (hp : PassesOwn (model X.prog X.w) X.A X.env X.xe) {tg iter : Expr} {body : List Stmt} {pos : Pos} {src : Src} {t : Tg} {b : Ss} (hi : PI X tg iter (tS G W cf src)) (hg : PG X tg (gT G t)) (hb : PSs X body (tSs G W cf b))
    (hf : ∀ x, foldedSetIterable iter X.env x = pure x) : PS X (.For tg iter body [] pos) (tSt G W cf (.loop t src b)) := by
  refine (ps_for hp g.calm hi hg hb hf).imp fun D σ H q => ?_
  obtain ⟨ι, τ, M, hs, hr, q⟩ := q
  unfold ex at q
  refine ⟨ι, τ, M, hs, hr, PostO.onS q hs fun p M1 ι1 H1 J _ l1 hr1 w q1 => ?_⟩
  let f : Val → St → Store → Out := fun x σ1 M2 => match put t x σ1 with
      | some σ2 => exs cf b σ2 M2
      | none => .bad
  let Pv : Nat → L2.St → Hp → Prop := fun i σ H => ∃ ι τ M, Le ι1 H1 ι H ∧ SR G ι H τ σ ∧ HR G ι M H ∧ PostO G W ι H D (rounds f p.1 p.2 (p.1.drop i) τ M)
  refine ⟨fun i m σ H => m = p.1.length - i ∧ i ≤ p.1.length ∧ Pv i σ H, ⟨p.1.length, by simp, Nat.zero_le _, ι1, τ, M1, Le.refl, hs.mono l1, hr1, by rw [List.drop_zero]; exact q1⟩, ?_⟩
  rintro i m σ2 H2 ⟨rfl, hi2, ι2, τ2, M2, l2, hs2, hr2, q2⟩
  by_cases hlt : i < p.1.length
  · have ed : p.1.drop i = p.1[i] :: p.1.drop (i + 1) := List.drop_eq_getElem_cons hlt
    rw [ed] at q2
    unfold rounds at q2
    split at q2
    · rename_i hst
      refine .inr ⟨w.go ι2 H2 M2 l2 hr2 hst i hlt, Pv (i + 1), fun σ' H' p' => ⟨p.1.length - (i + 1), by omega, rfl, hlt, p'⟩, fun x H' y => ?_⟩
      obtain ⟨ly, hry, v, ev1, rv⟩ := w.yld ι2 H2 M2 l2 hr2 hst i x H' hlt y
      replace l2 := l2.trans ly
      replace hr2 := hry
      replace hs2 := hs2.mono ly
      replace q2 := PostO.mono q2 ly
      have ev2 : v = p.1[i] := by rw [List.getElem?_eq_getElem hlt] at ev1; exact (Option.some.inj ev1).symm
      subst ev2
      cases hp2 : put t p.1[i] τ2 with
      | none =>
        have hf : f p.1[i] τ2 M2 = .bad := by
          show (match put t p.1[i] τ2 with | some σ2 => exs cf b σ2 M2 | none => Out.bad) = _
          rw [hp2]
        rw [hf] at q2
        exact q2.elim
      | some τ3 =>
        have hf : f p.1[i] τ2 M2 = exs cf b τ3 M2 := by
          show (match put t p.1[i] τ2 with | some σ2 => exs cf b σ2 M2 | none => Out.bad) = _
          rw [hp2]
        rw [hf] at q2
        refine put_ok hp2 rv hs2 fun σ3 hs3 _ => ⟨ι2, τ3, M2, hs3, hr2, ?_⟩
        cases h : exs cf b τ3 M2 with
        | nx τ4 M4 =>
          rw [h] at q2
          exact fun ι' H' σ' l hr' hs' => ⟨ι', τ4, M4, l2.trans l, hs', hr', PostO.mono q2 l⟩
        | cnt τ4 M4 =>
          rw [h] at q2
          exact fun ι' H' σ' l hr' hs' => ⟨ι', τ4, M4, l2.trans l, hs', hr', PostO.mono q2 l⟩
        | ret v M4 => rw [h] at q2; exact q2
        | brk τ4 M4 => rw [h] at q2; exact q2
        | exc x τ4 M4 => rw [h] at q2; exact q2
        | bad => rw [h] at q2; exact q2
    · exact q2.elim
  · have e1 : i = p.1.length := by omega
    subst e1
    rw [List.drop_length] at q2
    unfold rounds at q2
    split at q2
    · rename_i hst
      exact .inl ⟨w.stop ι2 H2 M2 l2 hr2 hst, q2 ι2 H2 σ2 Le.refl hr2 hs2⟩
    · exact q2.elim
theorem st_while (g : Good X G W cf ct lv) (hp : PassesOwn (model X.prog X.w) X.A X.env X.xe) {c : Expr} {body : List Stmt} {pos : Pos} {mc : E} {b : Ss} (hc : PT X c (tT G W cf mc)) (hb : PSs X body (tSs G W cf b)) : PS X (.While c body [] pos) (tSt G W cf (.whl mc b)) := by
  refine (ps_while hp hc hb).imp fun D σ H q => ?_
  obtain ⟨ι, τ, M, hs, hr, q⟩ := q
  unfold ex at q
  let tf : St → Store → Res Bool := fun σ1 M1 => (ev cf mc σ1 M1).bind fun x M2 => ofOpt (truth M2 x) M2
  let f : St → Store → Out := fun σ1 M1 => exs cf b σ1 M1
  let Pv : Nat → L2.St → Hp → Prop := fun m σ H => ∃ ι τ M, SR G ι H τ σ ∧ HR G ι M H ∧ PostO G W ι H D (whiles tf f m τ M)
  refine ⟨Pv, ⟨WHL, ι, τ, M, hs, hr, q⟩, ?_⟩
  rintro m σ1 H1 ⟨ι1, τ1, M1, hs1, hr1, q1⟩
  cases m with
  | zero => exact q1.elim
  | succ m =>
    unfold whiles at q1
    refine ⟨ι1, τ1, M1, hs1, hr1, PostO.on q1 hs1 fun k M2 ι2 H2 k2 _ l2 hr2 e2 q2 => ?_⟩
    subst e2
    cases k2 with
    | false => exact q2 ι2 H2 σ1 Le.refl hr2 (hs1.mono l2)
    | true =>
      simp only [if_true] at q2 ⊢
      refine ⟨Pv m, fun σ' H' z => ⟨m, Nat.lt_succ_self m, z⟩, ι2, τ1, M2, hs1.mono l2, hr2, ?_⟩
      have e : f τ1 M2 = exs cf b τ1 M2 := rfl
      rw [e] at q2
      cases h : exs cf b τ1 M2 with
      | nx τ4 M4 =>
        rw [h] at q2
        exact fun ι' H' σ' l hr' hs' => ⟨ι', τ4, M4, hs', hr', PostO.mono q2 l⟩
      | cnt τ4 M4 =>
        rw [h] at q2
        exact fun ι' H' σ' l hr' hs' => ⟨ι', τ4, M4, hs', hr', PostO.mono q2 l⟩
      | ret v M4 => rw [h] at q2; exact q2
      | brk τ4 M4 => rw [h] at q2; exact q2
      | exc x τ4 M4 => rw [h] at q2; exact q2
      | bad => rw [h] at q2; exact q2
end
end Mi
end MiRun10S

section MiRun11S
set_option Elab.async false
set_option linter.all false
set_option maxRecDepth 100000
namespace Mi
open PySem L2
/-! ### dict displays -/
def flatP : List (V × V) → List V
  | [] => []
  | (k, v) :: r => k :: v :: flatP r
theorem keys_unlike {x y : Val} {k l : Key} (hx : keyOf x = some k) (hy : keyOf y = some l) (h : keyE x y = false) : k ≠ l := by
  intro e
  subst e
  cases x <;> cases y <;> simp [keyOf] at hx hy
  · rename_i i j
    rw [← hy] at hx
    have : i = j := by simpa using hx
    simp [keyE, this] at h
  · rw [← hy] at hx; cases hx
  · rw [← hy] at hx; cases hx
  · rename_i s t
    rw [← hy] at hx
    have : toS s = toS t := by simpa using hx
    simp [keyE, toS_inj this] at h
theorem kvs_ok {K : PySem.W.Frag} {ι : List Addr} {H : Hp} : ∀ {ps : List (V × V)} {xs : List Val}, VRs K ι H xs (flatP ps) → keysOk (pairUp xs) = true →
    ∃ ws : List (Key × V), ps = ws.map (fun kv => (kV kv.1, kv.2)) ∧ KVs K ι H (pairUp xs) ws ∧ (∀ w ∈ ws, ∃ p ∈ pairUp xs, keyOf p.1 = some w.1) ∧ (ws.map (·.1)).Nodup
  | [], xs, r, _ => by
    cases r
    exact ⟨[], rfl, .nil, fun _ h => by simp at h, by simp⟩
  | (a, b) :: ps, xs, r, h => by
    cases r with
    | cons r1 r2 =>
      cases r2 with
      | cons r2 r3 =>
        simp only [pairUp, keysOk, Bool.and_eq_true] at h
        obtain ⟨⟨h1, h2⟩, h3⟩ := h
        obtain ⟨ws, e1, e2, e3, e4⟩ := kvs_ok r3 h3
        obtain ⟨k, hk, rfl⟩ := key_ok r1 h1
        refine ⟨(k, b) :: ws, by rw [e1]; rfl, .cons ⟨⟨hk, r1⟩, r2⟩ e2, fun w hw => ?_, ?_⟩
        · rcases List.mem_cons.mp hw with rfl | hw
          · exact ⟨_, List.mem_cons_self, hk⟩
          · obtain ⟨p, hp, q⟩ := e3 w hw
            exact ⟨p, List.mem_cons_of_mem _ hp, q⟩
        · rw [List.map_cons, List.nodup_cons]
          refine ⟨fun z => ?_, e4⟩
          obtain ⟨w, hw, ew⟩ := List.mem_map.mp z
          obtain ⟨p, hp, q⟩ := e3 w hw
          have := List.all_eq_true.mp h2 p hp
          exact keys_unlike hk q (by simpa using this) ew.symm
theorem merge_all : ∀ (ws acc : List (Key × V)), ((acc ++ ws).map (·.1)).Nodup → mergeK acc ws = acc ++ ws
  | [], acc, _ => by simp [mergeK]
  | w :: ws, acc, h => by
    have hk : (acc.any fun kv => decide (kv.1 = w.1)) = false := by
      rw [List.any_eq_false]
      intro p hp z
      have z' : p.1 = w.1 := by simpa using z
      rw [List.map_append, List.nodup_append] at h
      exact h.2.2 p.1 (List.mem_map_of_mem hp) w.1 (by simp) z'
    have e : putK acc w.1 w.2 = acc ++ [w] := by
      unfold putK
      rw [hk]; rfl
    show mergeK (putK acc w.1 w.2) ws = _
    rw [e, merge_all ws (acc ++ [w]) (by simpa using h)]
    simp
section
variable {X : Cx} {G : Gs} {W : WX} {cf : Cf} {ct : Ct} {lv : Nat}
def trsOf (G : Gs) (W : WX) (cf : Cf) : List (E × E) → List (TE × TE)
  | [] => []
  | (k, v) :: r => (tE G W cf k, tE G W cf v) :: trsOf G W cf r
def flatE : List (E × E) → Es
  | [] => .nil
  | (k, v) :: r => .cons k (.cons v (flatE r))
abbrev RPs (G : Gs) : List Addr → Hp → List Val → List (V × V) → Prop := fun ι H xs ps => VRs G.K ι H xs (flatP ps)
theorem pairs_run {σ : L2.St} : ∀ {ms : List (E × E)} {ι : List Addr} {τ : St} {M : Store} {H : Hp} {Q : List (V × V) → Hp → Prop}, SR G ι H τ σ → HR G ι M H → Post G W σ ι H (RPs G) Q (evs cf (flatE ms) τ M) → tPairs (trsOf G W cf ms) σ H Q
  | [], ι, τ, M, H, Q, hs, hr, q => by
    unfold flatE evs at q
    exact q.here hr .nil
  | (k, v) :: r, ι, τ, M, H, Q, hs, hr, q => by
    unfold flatE at q
    unfold evs at q
    refine ⟨ι, τ, M, hs, hr, q.bind fun x M1 ι1 H1 xv _ l1 hr1 r1 q1 => ?_⟩
    have q1' : Post G W σ ι1 H1 (RPs G) Q ((ev cf v τ M1).bind fun y M2 => (evs cf (flatE r) τ M2).bind fun ys M3 => .ok (x :: y :: ys) M3) := by
      unfold evs at q1
      cases h : ev cf v τ M1 with
      | ok y M2 =>
        rw [h] at q1
        simp only [Res.bind_ok] at q1 ⊢
        cases h2 : evs cf (flatE r) τ M2 <;> (rw [h2] at q1; exact q1)
      | exc e M2 => rw [h] at q1; exact q1
      | bad => rw [h] at q1; exact q1
    refine ⟨ι1, τ, M1, hs.mono l1, hr1, q1'.bind fun y M2 ι2 H2 yv _ l2 hr2 r2 q2 => ?_⟩
    refine pairs_run (hs.mono (l1.trans l2)) hr2 ?_
    refine q2.bind fun ys M3 ι3 H3 ps _ l3 hr3 r3 q3 => ?_
    exact q3.here hr3 (.cons ((r1.mono l2).mono l3) (.cons (r2.mono l3) r3))
/-- an object of ours, new, where something new stood -/
theorem mine_post {σ : L2.St} {ι ι1 : List Addr} {H H1 : Hp} {M1 : Store} {Q : VK} {o : Obj} (q : Post G W σ ι H (RV G) Q (.ok (.ref M1.length) (M1 ++ [o]))) (l : Le ι H ι1 H1) (hr : HR G ι1 M1 H1) {D : Addr} (h0 : H D = none) (np : D ∉ ι1) (ho : OR G (ι1 ++ [D]) H1 o D) : Q (.ref D) H1 := by
  have l2 : Le ι H (ι1 ++ [D]) H1 := by
    obtain ⟨t, e, ft⟩ := l.more
    refine ⟨⟨t ++ [D], by rw [e]; simp, fun a ha => ?_⟩, l.ext, l.dom, l.keep⟩
    rcases List.mem_append.mp ha with ha | ha
    · exact ft a ha
    · simp at ha; rw [ha]; exact h0
  refine q (ι1 ++ [D]) H1 (.ref D) l2 (hr.mine np ho) (.ref ?_)
  rw [← hr.len]; simp
theorem KVs.more {K : PySem.W.Frag} {ι t : List Addr} {H : Hp} {ks : List (Val × Val)} {ws : List (Key × V)} (h : KVs K ι H ks ws) : KVs K (ι ++ t) H ks ws := L2.Paired.mapP h fun _ _ q => ⟨⟨q.1.1, VR.more q.1.2⟩, VR.more q.2⟩
theorem KVs.ext {K : PySem.W.Frag} {ι : List Addr} {H H' : Hp} (l : Ext H H') {ks : List (Val × Val)} {ws : List (Key × V)} (h : KVs K ι H ks ws) : KVs K ι H' ks ws := L2.Paired.mapP h fun _ _ q => ⟨⟨q.1.1, VR.ext l q.1.2⟩, VR.ext l q.2⟩
theorem KVs.length {K : PySem.W.Frag} {ι : List Addr} {H : Hp} {ks : List (Val × Val)} {ws : List (Key × V)} (h : KVs K ι H ks ws) : ks.length = ws.length := by
  unfold KVs at h
  induction h with
  | nil => rfl
  | cons _ _ ih => simp [ih]
theorem evs_flat_len {ms : List (E × E)} : (flatE ms).len = 2 * ms.length := by
  induction ms with
  | nil => rfl
  | cons p r ih => obtain ⟨k, v⟩ := p; simp [flatE, Es.len, ih]; omega
theorem pairUp_len : ∀ xs : List Val, (pairUp xs).length = xs.length / 2
  | [] => rfl
  | [x] => by simp [pairUp]
  | x :: y :: r => by simp [pairUp, pairUp_len r]; omega
theorem e_dic (g : Good X G W cf ct lv) {pos : Pos} {keys : List (Option Expr)} {values : List Expr} {ms : List (E × E)} (h : PPs X pos keys values (trsOf G W cf ms)) (hall : keys.all (·.isSome) = true) (hl : keys.length = values.length) (h0 : keys ≠ []) (h15 : keys.length ≤ 15) (hm : ms.length ≤ 15) :
    PE X (.Dict keys values pos) (tE G W cf (.dic (flatE ms))) := by
  refine (pe_disp h hall hl h0 h15).imp fun σ H Q q => ?_
  obtain ⟨ι, τ, M, hs, hr, q⟩ := q
  unfold ev at q
  intro p hp
  have l1 : Le ι H ι (upd H p (.dK [])) := Le.new hp
  have np := hr.ne hp
  refine pairs_run (hs.mono l1) (hr.new hp) ?_
  cases hev : evs cf (flatE ms) τ M with
  | bad => rw [hev] at q; exact q.elim
  | exc x M1 =>
    rw [hev] at q
    exact fun ι' H' c d l' => q ι' H' c d (l1.trans l')
  | ok xs M1 =>
    rw [hev] at q
    simp only [Res.bind_ok] at q
    intro ι2 H2 ps l2 hr2 rp
    have np2 : p ∉ ι2 := fun z => by
      obtain ⟨tl, rfl, ft⟩ := l2.more
      rcases List.mem_append.mp z with z | z
      · exact np z
      · have := ft p z
        rw [upd_same] at this; cases this
    have e2 : H2 p = some (.dK []) := l2.keep _ _ upd_same np
    refine ⟨e2, ?_⟩
    split at q
    · rename_i hk
      obtain ⟨ws, ew, hkv, _, hnd⟩ := kvs_ok rp hk
      have hlen : ws.length ≤ 15 := by
        rw [← hkv.length, pairUp_len, evs_len hev, evs_flat_len]
        omega
      refine ⟨ws, ew, hlen, ?_⟩
      rw [merge_all ws [] (by simpa using hnd), List.nil_append]
      have mD : L2.Mut (H2 p) := mut_dK e2
      have l3 : Le ι H ι2 (upd H2 p (.dK ws)) := (l1.trans l2).acc hp mD
      exact mine_post q l3 (hr2.other mD np2) hp np2 ⟨ws, upd_same, (hkv.ext (Ext.mut mD)).more⟩
    · exact q.elim
/-! ### exception values -/
theorem e_newx (g : Good X G W cf ct lv) {x : Str} {c : Nat} {p pos : Pos} (hx : ct.gl x = some (.exc c)) (hg : glB ct.sc x = true) (hd : (x == ("__debug__" : Str)) = false) : PE X (.Call (.Name x p) [] [] pos) (tE G W cf (.newx c)) := by
  have A := g.exc x c hx
  obtain ⟨bmB, B, newId, initId, F, qi⟩ := A.inn
  have key : PE X (.Call (.Name x p) [] [] pos) (fun σ H Q => ∀ t a, H t = none → H a = none → a ≠ t → Q (.ref a) (upd (upd H t (.tup [])) a (ExA (.ref (G.cls c)) t a))) := by
    refine ⟨fun pins s σ H Q I h => ?_⟩
    refine wpAny_Call_Name_kw (ld_glob I (glB_ok g.sc hg) A.mg ?_ hd)
    refine PySem.W.callWith_K0 I.kIn A.kp ?_
    obtain ⟨bm, N, nm, qn, bs, hdct, sn, sub, ab, col, dd, k0, k1, k2, k3, k5, mN, hC, hN, hni, T⟩ := exc_obj I.kIn qi
    refine wpAny_call_exc_subT F T hC hN hni (fun h' a hm => ?_) (by show 0 ≤ sizeLine; exact Nat.zero_le _)
    have hn : H a = none := I.hok.gone hm.new
    obtain ⟨t, ht, h1, h2⟩ := hm.there
    have nt : H t = none := I.hok.gone h1
    have na : a ≠ t := fun z => by
      rw [z, h2] at ht
      cases ht
    obtain ⟨B, b1, b2⟩ := restrict h' fun b => decide (b ≠ a)
    have k1 : ∀ b u, s.heap.get? b = some u → B.get? b = some u := fun b u e => by
      have nb : b ≠ a := fun z => by rw [z, hm.new] at e; cases e
      rw [b1 b (decide_eq_true nb)]
      exact hm.keeps b u e
    have k2 : ∀ b u, B.get? b = some u → h'.get? b = some u := fun b u e => by
      have nb : b ≠ a := fun z => by rw [z, b2 a (decide_eq_false fun q => q rfl)] at e; cases e
      rw [← b1 b (decide_eq_true nb)]
      exact e
    have tB : B.get? t = some { cls := .type "tuple", data := .seq ([] : List Value).toArray } := by
      rw [b1 t (decide_eq_true fun z => na z.symm)]
      exact h2
    have J1 := I.laidN (o := .tup []) (t' := s.toks) k1 h1 nt ⟨Nat.zero_le _, [], .nil, ⟨_, tB, rfl, _, rfl⟩⟩
    have n2 : upd H t (.tup []) a = none := by rw [upd_ne na]; exact hn
    have J2 := J1.laidN (o := ExA (.ref (G.cls c)) t a) (t' := s.toks) k2 (b2 a (decide_eq_false fun q => q rfl)) n2 (exA_ok ht ⟨rfl, rfl⟩ rfl rfl rfl rfl (show 4 < 6 by decide))
    exact ⟨.ref a, _, J2, rfl, h t a nt hn na⟩
  refine key.imp fun σ H Q q => ?_
  obtain ⟨ι, τ, M, hs, hr, q⟩ := q
  unfold ev at q
  intro t a ht ha na
  have n2 : upd H t (.tup []) a = none := by rw [upd_ne na]; exact ha
  refine mine_post q ((Le.new ht).trans (Le.new n2)) ((hr.new ht).new n2) ha (hr.ne ha) ⟨t, upd_same, ?_⟩
  rw [upd_ne (fun z => na z.symm)]
  exact upd_same
/-! ### list(x) -/
def rLst (G : Gs) (W : WX) : List V → Hp → VK → Prop := fun us H Q => ∃ σ ι M a v, us = [v] ∧ HR G ι M H ∧ VR G.K ι H a v ∧ PostL G W σ ι H Q (match a with
    | .tup xs => .ok xs M
    | .frz xs => .ok xs M
    | .ref n => match M[n]? with
      | some (.lst xs) => .ok xs M
      | _ => .bad
    | _ => .bad)
theorem lst_run (g : Good X G W cf ct lv) : CallR X (.type "list") (rLst G W) := by
  rintro ps s σ' H us ws Q I r ⟨σ, ι, M, a, v, rfl, hr, ra, q⟩
  have gk := g.gk
  cases ra with
  | tup hT rr => exact call_list_of ps s σ' H _ ws Q I r ⟨_, _, rfl, .inr (by rw [← gk]; exact hT), fun l hl => q.make hr rr hl⟩
  | frz hT rr => exact call_list_of ps s σ' H _ ws Q I r ⟨_, _, rfl, .inl (by rw [← gk]; exact hT.sq), fun l hl => q.make hr rr hl⟩
  | ref ha =>
    simp only at q
    split at q
    · rename_i em
      obtain ⟨vs, h1, h2⟩ := hr.sq_at em ha
      exact call_list_of ps s σ' H _ ws Q I r ⟨_, _, rfl, .inl (by rw [← gk]; exact h1), fun l hl => q.make hr h2 hl⟩
    · exact q.elim
  | _ => exact q.elim
theorem l_list (g : Good X G W cf ct lv) {a : Expr} {m : E} {p pos : Pos} (ha : PE X a (tE G W cf m)) (hn : notStar a = true) (hg : glB ct.sc "list" = true) (hb : ct.gl "list" = some .blt) : PE X (.Call (.Name "list" p) [a] [] pos) (tL G W cf (.list m)) := by
  refine (pe_callTy (lst_run (W := W) g) (glB_ok g.sc hg) (g.blt _ hb) PyProof.Rows.boot_list (pa_cons ha pa_nil (star_ok hn)) (by decide +kernel) (by decide +kernel) (star_ok hn) (stars_ok (es := []) rfl)).imp fun σ H Q q => ?_
  obtain ⟨ι, τ, M, hs, hr, q⟩ := q
  unfold evL at q
  refine ⟨ι, τ, M, hs, hr, Post.bindL q fun x M1 ι1 H1 v _ l1 hr1 r1 q1 => ?_⟩
  exact ⟨σ, ι1, M1, x, v, rfl, hr1, r1, q1⟩
end
end Mi
end MiRun11S

section MiRevS
set_option Elab.async false
set_option linter.all false
set_option maxRecDepth 100000
set_option maxHeartbeats 2000000
/-! t[::-1] -/
namespace HT
open PySem PySem.Spec PyProof.Rows L2
section
variable {prog : Program} {w : World} {A : Around} {E : Value → Shared → Prop} {s : Shared}
theorem adjust_rev (n : Nat) : Builtin.Slice.sliceAdjust none none (-1) (n : Int) = ((n : Int) - 1, -1) := by
  unfold Builtin.Slice.sliceAdjust
  simp
theorem places_rev (n : Nat) : Builtin.Slice.slicePlaces ((n : Int) - 1) (-1) (-1) = n := by
  unfold Builtin.Slice.slicePlaces
  have h1 : ¬ ((-1 : Int) > 0) := by omega
  have e : ∀ x : Int, x / (- -1) = x := fun x => by rw [show (- -1 : Int) = 1 by decide, Int.ediv_one]
  simp only [h1, if_false, e]
  split <;> omega
theorem fm_congr {α β : Type} {f g : α → Option β} : ∀ {l : List α}, (∀ x ∈ l, f x = g x) → l.filterMap f = l.filterMap g
  | [], _ => rfl
  | x :: l, h => by
    rw [List.filterMap_cons, List.filterMap_cons, h x List.mem_cons_self, fm_congr fun y hy => h y (List.mem_cons_of_mem _ hy)]
theorem sliceApplied_rev {sl : Addr} {vk : Value} {n : Nat} {Q : Int × Int × Nat → Shared → Prop} (hs : s.heap.IsSliceOf sl .none .none vk) (pk : IsPart vk (some (-1)))
    (h : Q ((n : Int) - 1, -1, n) s) : wpAny (model prog w) A (Builtin.Slice.sliceApplied (.ref sl) (pure (n : Int))) Q E s := by
  obtain ⟨os, hos, hcs, hds⟩ := id hs
  unfold Builtin.Slice.sliceApplied Builtin.Slice.sliceFields
  refine wpAny_bind (wpAny_bind (wpAny_field hos hds (x := .none) rfl (wpAny_bind (wpAny_field hos hds (x := .none) rfl (wpAny_bind (wpAny_field hos hds (x := vk) rfl (wpAny_pure ?_)))))))
  refine wpAny_bind (slicePart_ pk ?_)
  show wpAny _ _ (if ((-1 : Int) == 0) = true then _ else _) _ _ s
  rw [if_neg (by decide)]
  refine wpAny_bind (slicePart_ .none (wpAny_bind (slicePart_ .none (wpAny_bind (wpAny_pure ?_)))))
  show wpAny _ _ (match Builtin.Slice.sliceAdjust none none (-1) (n : Int) with | (lo, hi) => pure (lo, (-1 : Int), Builtin.Slice.slicePlaces lo hi (-1))) _ _ s
  rw [adjust_rev n]
  show wpAny _ _ (pure ((n : Int) - 1, (-1 : Int), Builtin.Slice.slicePlaces ((n : Int) - 1) (-1) (-1))) _ _ s
  rw [places_rev]
  exact wpAny_pure h
theorem pick_rev (xs : Array Value) : ((List.range xs.size).filterMap fun (m : Nat) => xs[(((xs.size : Nat) : Int) - 1 + (m : Int) * (-1)).toNat]?).toArray = xs.toList.reverse.toArray := by
  have e : ∀ m ∈ List.range xs.size, xs[(((xs.size : Nat) : Int) - 1 + (m : Int) * (-1)).toNat]? = xs[xs.size - 1 - m]? := by
    intro m hm
    have := List.mem_range.mp hm
    have : (((xs.size : Nat) : Int) - 1 + (m : Int) * (-1)).toNat = xs.size - 1 - m := by omega
    rw [this]
  rw [fm_congr e]
  have e2 : (List.range xs.size).filterMap (fun m => xs[xs.size - 1 - m]?) = ((List.range xs.size).map fun k => xs.size - 1 - k).filterMap (xs[·]?) := by
    rw [List.filterMap_map] <;> rfl
  rw [e2, PySem.W.krv_range, List.filterMap_reverse, PySem.W.krv_all]
theorem getItem_tuple_rev {t sl : Addr} {items : Array Value} {vk : Value} {Q : Value → Shared → Prop} (ht : IsTup s.heap t items) (hs : s.heap.IsSliceOf sl .none .none vk) (pk : IsPart vk (some (-1)))
    (h : Q (.ref s.heap.objs.size) { s with heap := s.heap.push { cls := .type "tuple", data := .seq items.toList.reverse.toArray } })
    (hsz : items.size ≤ sizeLine) : wpAny (model prog w) A (getItem (.ref t) (.ref sl)) Q E s := by
  have htake : sizeOk (.seq items.toList.reverse.toArray) := by
    show items.toList.reverse.toArray.size ≤ sizeLine
    rw [List.size_toArray, List.length_reverse, Array.length_toList]
    omega
  obtain ⟨os, hos, hcs, hds⟩ := id hs
  have hTs : s.TypeIs (.ref sl) "slice" := ⟨os, hos, hcs⟩
  unfold getItem
  try with_reducible refine wpAny_holding ?_
  first | refine wpAny_bind (wpAny_pure ?_) | skip
  refine wpAny_bind (wpAny_sequenceKey ht.typeIs (by decide) ?_)
  refine wpAny_bind (wpAny_callSpecial?_slot (name := Str.ofString "__getitem__") ht.typeIs PyProof.Rows.slot_tuple_getitem
    (wpAny_call_entry PyProof.Rows.slot_tuple_getitem ht.typeIs entry_tuple_getitem ?_ (args_tuple_getitem _ _)))
  show wpAny _ _ (Builtin.Tuple.tupleItemsOf (.ref t) >>= _) _ _ s
  refine wpAny_bind (tupleItemsOf_ ht ?_)
  refine wpAny_bind (wpAny_typeOf hTs ?_)
  rw [if_pos (by decide)]
  refine wpAny_bind (sliceApplied_rev hs pk ?_)
  have hno : ¬ (((((items.size : Nat) : Int) - 1) == 0 && (-1 : Int) == 1 && items.size == items.size) = true) := by
    intro q
    rw [Bool.and_eq_true, Bool.and_eq_true] at q
    exact absurd q.1.2 (by decide)
  show wpAny _ _ (if ((((items.size : Nat) : Int) - 1) == 0 && (-1 : Int) == 1 && items.size == items.size) = true then _ else _) _ _ s
  rw [if_neg hno, pick_rev]
  first
    | exact wpAny_bind (m := Builtin.Tuple.tupleExact _) (wpAny_newObj_type (wpAny_pure ⟨_, rfl, wpAny_pure h⟩) htake)
    | exact wpAny_bind (m := Builtin.Tuple.tupleExact _) (wpAny_newObj_type (wpAny_bind (wpAny_pure (wpAny_pure ⟨_, rfl, wpAny_pure h⟩))) htake)
    | exact wpAny_bind (wpAny_bind (m := Builtin.Tuple.tupleExact _) (wpAny_newObj_type (wpAny_pure (wpAny_pure ⟨_, rfl, wpAny_pure h⟩)) htake))
    | exact wpAny_bind (wpAny_bind (m := Builtin.Tuple.tupleExact _) (wpAny_newObj_type (wpAny_pure ⟨_, rfl, wpAny_pure h⟩) htake))
end
end HT
namespace L2
open PySem PySem.Spec PyProof.Rows
section
variable {X : Cx} {e k : Expr} {te : TE} {tk : TO} {pos p2 : Pos}
/-- t[::-1] of a tuple: a new one -/
def tRev (K : PySem.W.Frag) (te : TE) (tk : TO) : TE := fun σ H Q => te σ H fun x H1 => tk σ H1 fun o H2 => o = some (-1) ∧ ∃ a xs, x = .ref a ∧ SqT K H2 a xs ∧ ∀ p, H2 p = none → Q (.ref p) (upd H2 p (.tup xs.reverse))
theorem pe_rev (he : PE X e te) (hk : PO X (some k) tk) : PE X (.Subscript e (.Slice none none (some k) p2) pos) (tRev X.K te tk) := by
  refine ⟨fun pins s σ H Q I h => ?_⟩
  refine Subscript_ (thn (he.run pins s σ H _ I h) fun v s1 ⟨x, H1, I1, r1, q1⟩ => ?_)
  refine wpAny_Slice ?_
  rw [evalPart_none]
  refine wpAny_pure ?_
  refine wpAny_pure ?_
  refine thn (hk.run pins s1 σ H1 _ I1 q1) fun vk s3 ⟨o, H3, I3, pk, e3, a, xs, ex, hx, q3⟩ => ?_
  subst ex e3
  cases r1
  have I4 : Inv X pins σ H3 { s3 with heap := s3.heap.push { cls := .type "slice", data := .fields #[.none, .none, vk] } } := I3.kept (t' := s3.toks) fun b ob q => Heap.get?_push_of_some _ q
  obtain ⟨its, r, ht, hz⟩ := I4.tuple hx
  have hlen : its.toArray.size = xs.length := by rw [List.size_toArray]; exact r.length.symm
  show wpAny (model X.prog X.w) X.A (subscriptTail e (.Slice none none (some k) p2) (.ref a) (.ref s3.heap.objs.size)) (EP X pins σ Q) X.xe { s3 with heap := s3.heap.push { cls := .type "slice", data := .fields #[.none, .none, vk] } }
  refine tail_any (ops := [.ref a, .ref s3.heap.objs.size]) ht.typeIs PyProof.Rows.slot_tuple_getitem.lookup ?_ (by with_unfolding_all rfl)
  refine HT.getItem_tuple_rev ht (Heap.IsSliceOf.new ..) pk ?_ (by rw [hlen]; exact hz)
  have hl : (xs.reverse).length ≤ sizeLine := by rw [List.length_reverse]; exact hz
  refine ⟨.ref _, _, I4.laid (t' := s3.toks) (o := .tup xs.reverse) (fun b ob q => Heap.get?_push_of_some _ q) (Nat.le_refl _) ?_, rfl, q3 _ (I4.hok.fresh (Nat.le_refl _))⟩
  exact ⟨hl, _, by rw [List.toList_toArray]; exact Vals.reverse r, IsTup.new _ _⟩
end
end L2

namespace Mi
open PySem L2
theorem VRs.app {K : PySem.W.Frag} {ι : List Addr} {H : Hp} : ∀ {xs ys : List Val} {vs ws : List V}, VRs K ι H xs vs → VRs K ι H ys ws → VRs K ι H (xs ++ ys) (vs ++ ws)
  | [], _, _, _, .nil, h => h
  | _ :: _, _, _, _, .cons a t, h => .cons a (VRs.app t h)
theorem VRs.rev {K : PySem.W.Frag} {ι : List Addr} {H : Hp} : ∀ {xs : List Val} {vs : List V}, VRs K ι H xs vs → VRs K ι H xs.reverse vs.reverse
  | [], _, .nil => .nil
  | _ :: _, _, .cons a t => by
    rw [List.reverse_cons, List.reverse_cons]
    exact VRs.app (VRs.rev t) (.cons a .nil)
section
variable {X : Cx} {G : Gs} {W : WX} {cf : Cf} {ct : Ct} {lv : Nat}
theorem e_rev (g : Good X G W cf ct lv) {a k : Expr} {ma : E} {p2 pos : Pos} (ha : PE X a (tE G W cf ma)) (hk : PE X k (tE G W cf (.neg (.cst (.int 1))))) : PE X (.Subscript a (.Slice none none (some k) p2) pos) (tE G W cf (.rev ma)) := by
  refine (pe_rev ha (po_some hk)).imp fun σ H Q q => ?_
  obtain ⟨ι, τ, M, hs, hr, q⟩ := q
  unfold ev at q
  refine ⟨ι, τ, M, hs, hr, q.bind fun x M1 ι1 H1 v _ l1 hr1 r1 q1 => ?_⟩
  refine ⟨ι1, τ, M1, hs.mono l1, hr1, ?_⟩
  have e : ev cf (.neg (.cst (.int 1))) τ M1 = .ok (.int (-1)) M1 := by
    rw [ev, ev] <;> rfl
  rw [e]
  intro ι2 H2 u l2 hr2 r2
  cases r2
  refine ⟨-1, rfl, rfl, ?_⟩
  split at q1
  · cases r1.mono l2 with
    | tup hT r =>
      refine ⟨_, _, rfl, by rw [← g.gk]; exact hT, fun p hp => ?_⟩
      exact q1 ι2 _ _ (l2.trans (Le.new hp)) (hr2.new hp) (vr_tup_new hp r.rev)
  · exact q1.elim
theorem e_dic0 {pos : Pos} : PE X (.Dict [] [] pos) (tE G W cf (.dic .nil)) := by
  refine pe_dnewK.imp fun σ H Q q => ?_
  obtain ⟨ι, τ, M, hs, hr, q⟩ := q
  have e : ev cf (.dic .nil) τ M = .ok (.ref M.length) (M ++ [.dic []]) := by
    rw [ev, evs]
    rfl
  rw [e] at q
  intro p hp
  exact mine_post q (Le.new hp) (hr.new hp) hp (hr.ne hp) ⟨[], upd_same, .nil⟩
end
end Mi
end MiRevS

section MiSrtS
set_option Elab.async false
set_option linter.all false
set_option maxRecDepth 100000
/-! sorted of a list of alike data -/
namespace Mi
open PySem L2
theorem dps_length {K : PySem.W.Frag} {H : Hp} : ∀ {xs : List V} {ds : List PyData}, DpAll K H xs ds → xs.length = ds.length
  | _, _, .nil => rfl
  | _, _, .cons _ t => by simp [dps_length t]
theorem each_zip : ∀ {xs : List V} {us : List Value}, Vals xs us → ∀ {ds : List PyData}, ds.length = xs.length → PySem.W.EachIs (fun u (b : PyData × V) => RelV b.2 u) us (ds.zip xs)
  | _, _, .nil, [], _ => .nil
  | _, _, .cons h t, d :: ds, e => .cons h (each_zip t (by simpa using e))
theorem each_vals : ∀ {us : List Value} {bs : List (PyData × V)}, PySem.W.EachIs (fun u (b : PyData × V) => RelV b.2 u) us bs → Vals (bs.map fun b => b.2) us
  | _, _, .nil => .nil
  | _, _, .cons h t => .cons h (each_vals t)
theorem zip_fst {α β : Type} : ∀ {l : List α} {m : List β}, l.length = m.length → (l.zip m).map (fun b => b.1) = l
  | [], [], _ => rfl
  | a :: l, b :: m, h => by simp only [List.zip_cons_cons, List.map_cons]; rw [zip_fst (by simpa using h)]
theorem zip_snd {α β : Type} : ∀ {l : List α} {m : List β}, l.length = m.length → (l.zip m).map (fun b => b.2) = m
  | [], [], _ => rfl
  | a :: l, b :: m, h => by simp only [List.zip_cons_cons, List.map_cons]; rw [zip_snd (by simpa using h)]
theorem each_reads {h : Heap} : ∀ {us : List Value} {bs : List (PyData × V)} {as : List Addr}, ReadsAll h us (bs.map fun b => b.1) as → PySem.W.EachIs (fun v (b : PyData × V) => ∃ as, Reads h v b.1 as) us bs := fun {us bs as} r =>
  PySem.W.readsAll_each (fun b : PyData × V => b.1) r
def rSortedD (K : PySem.W.Frag) : List V → Hp → VK → Prop := fun vs H Q => ∃ (a : Addr) (xs : List V) (ds : List PyData), vs = [V.ref a] ∧ SqL K H a xs ∧ DpAll K H xs ds ∧ PySem.W.AllAlike ds ∧ PySem.W.Sortable ds ∧ (∀ d ∈ ds, d.depth ≤ 60) ∧
  ∀ p, H p = none → Q (.ref p) (upd H p (.lst (((ds.zip xs).mergeSort (PySem.W.dataLe false fun b => b.1)).map fun b => b.2)))
theorem cr_sortedD {X : Cx} (hu : X.A.units + 64 < cLine) : CallR X (.builtin "sorted") (rSortedD X.K) := by
  intro pins s σ H vs us Q I r h
  obtain ⟨a, xs, ds, rfl, hs, hd, hal, hk, hz, q⟩ := h
  obtain ⟨its, rv, hl, hlen⟩ := I.list hs
  rw [Vals.ref1 r]
  have el := dps_length hd
  obtain ⟨as, rd⟩ := Dp.readsAll I ds xs its hd rv
  have ef := zip_fst el.symm
  have e1 := each_zip rv (ds := ds) el.symm
  have e2 : PySem.W.EachIs (fun v (b : PyData × V) => ∃ as, Reads s.heap v b.1 as) its (ds.zip xs) := each_reads (by rw [ef]; exact rd)
  refine PySem.W.sorted_data (β := PyData × V) (enc := fun b => b.1) (bs := ds.zip xs) (R := fun u b => RelV b.2 u) hl.isList e1 e2 (by rw [ef]; exact hal) (by rw [ef]; exact hk) (by rw [List.length_zip]; omega) (fun b hb => ?_) fun out h1 h2 => ?_
  · have := hz b.1 (List.of_mem_zip hb).1
    omega
  · obtain ⟨ep, he'⟩ := PyProof.Rows.sortedAll_at s.heap its out.toArray
    have hl2 : (((ds.zip xs).mergeSort (PySem.W.dataLe false fun b => b.1)).map fun b => b.2).length ≤ sizeLine := by
      rw [List.length_map, List.length_mergeSort, List.length_zip]
      omega
    exact ⟨.ref _, upd H (s.heap.objs.size + 1) (.lst (((ds.zip xs).mergeSort (PySem.W.dataLe false fun b => b.1)).map fun b => b.2)), I.laid (t' := s.toks) (fun _ _ => PyProof.Rows.sortedAll_old) (Nat.le_succ _) ⟨hl2, out, ep, each_vals h2, he'⟩, rfl, q _ (I.hok.fresh (Nat.le_succ _))⟩
end Mi
namespace Mi
open PySem L2
theorem vrs_pairs {K : PySem.W.Frag} {ι : List Addr} {H : Hp} : ∀ {zs : List (Val × V)}, (∀ z ∈ zs, VR K ι H z.1 z.2) → VRs K ι H (zs.map fun z => z.1) (zs.map fun z => z.2)
  | [], _ => .nil
  | z :: zs, h => .cons (h z List.mem_cons_self) (vrs_pairs fun y hy => h y (List.mem_cons_of_mem _ hy))
theorem vrs_zip {K : PySem.W.Frag} {ι : List Addr} {H : Hp} : ∀ {xs : List Val} {vs : List V}, VRs K ι H xs vs → xs.length = vs.length ∧ (∀ z ∈ xs.zip vs, VR K ι H z.1 z.2) ∧ (pds xs).zip vs = (xs.zip vs).map fun z => (pd z.1, z.2)
  | [], _, .nil => ⟨rfl, ⟨(fun z hz => absurd hz (by simp)), rfl⟩⟩
  | x :: xs, _, .cons h t => by
    obtain ⟨h1, h2, h3⟩ := vrs_zip t
    refine ⟨by simp [h1], fun z hz => ?_, by simp [pds, h3]⟩
    rw [List.zip_cons_cons] at hz
    rcases List.mem_cons.mp hz with rfl | hz
    · exact h
    · exact h2 z hz
theorem noRefs_mem : ∀ {xs : List Val}, noRefs xs = true → ∀ x ∈ xs, noRef x = true
  | y :: xs, h, x, hx => by
    have h' : noRef y = true ∧ noRefs xs = true := by simpa [noRefs] using h
    rcases List.mem_cons.mp hx with rfl | hx
    · exact h'.1
    · exact noRefs_mem h'.2 x hx
theorem depths_mem : ∀ {xs : List Val} {x : Val}, x ∈ xs → depth x ≤ depths xs
  | y :: xs, x, hx => by
    simp only [depths]
    rcases List.mem_cons.mp hx with rfl | hx
    · omega
    · have := depths_mem hx
      omega
theorem pds_mem : ∀ {xs : List Val} {d : PyData}, d ∈ pds xs → ∃ x ∈ xs, d = pd x
  | x :: xs, d, h => by
    simp only [pds] at h
    rcases List.mem_cons.mp h with rfl | h
    · exact ⟨x, List.mem_cons_self, rfl⟩
    · obtain ⟨y, hy, e⟩ := pds_mem h
      exact ⟨y, List.mem_cons_of_mem _ hy, e⟩
theorem srt_pairs {K : PySem.W.Frag} {ι : List Addr} {H : Hp} {xs : List Val} {vs : List V} (r : VRs K ι H xs vs) (nr : noRefs xs = true) (al : ∀ x ∈ xs, ∀ y ∈ xs, alk x y = true) :
    VRs K ι H (srtV xs) ((((pds xs).zip vs).mergeSort (PySem.W.dataLe false fun b => b.1)).map fun b => b.2) := by
  obtain ⟨h1, h2, h3⟩ := vrs_zip r
  obtain ⟨zs, hzs⟩ : ∃ zs, zs = xs.zip vs := ⟨_, rfl⟩
  rw [← hzs] at h2 h3
  have hf : zs.map (fun z => z.1) = xs := by rw [hzs]; exact zip_fst h1
  have hm : ∀ z ∈ zs, z.1 ∈ xs := fun z hz => by rw [← hf]; exact List.mem_map.mpr ⟨z, hz, rfl⟩
  have e1 : srtV xs = (zs.mergeSort fun a b => !ltV b.1 a.1).map fun z => z.1 := by
    unfold srtV
    rw [List.map_mergeSort (s := fun x y => !ltV y x) (fun a _ b _ => rfl), hf]
  have e2 : (((pds xs).zip vs).mergeSort (PySem.W.dataLe false fun b => b.1)) = (zs.mergeSort fun a b => !ltV b.1 a.1).map fun z => (pd z.1, z.2) := by
    rw [h3]
    rw [List.map_mergeSort (s := PySem.W.dataLe false fun b : PyData × V => b.1) (f := fun z : Val × V => (pd z.1, z.2)) (fun a ha b hb => ?_)]
    show (!ltV b.1 a.1) = !PySem.W.dataLt (pd b.1) (pd a.1)
    rw [lt_pd _ _ (noRefs_mem nr _ (hm b hb)) (noRefs_mem nr _ (hm a ha)) (al _ (hm b hb) _ (hm a ha))]
  rw [e1, e2, List.map_map]
  exact vrs_pairs fun z hz => h2 z (List.mem_mergeSort.mp hz)
def rSrt (G : Gs) (W : WX) : List V → Hp → VK → Prop := fun us H Q => ∃ σ ι M a v, us = [v] ∧ HR G ι M H ∧ VR G.K ι H a v ∧ PostL G W σ ι H Q (match a with
    | .ref n => match M[n]? with
      | some (.lst xs) => if srtOk xs then .ok (srtV xs) M else .bad
      | _ => .bad
    | _ => .bad)
section
variable {X : Cx} {G : Gs} {W : WX} {cf : Cf} {ct : Ct} {lv : Nat}
theorem srt_run (g : Good X G W cf ct lv) (hu : X.A.units + 64 < cLine) : CallR X (.builtin "sorted") (rSrt G W) := by
  rintro ps s σ' H us ws Q I r ⟨σ, ι, M, a, v, rfl, hr, ra, q⟩
  have gk := g.gk
  cases ra with
  | ref ha =>
    simp only at q
    split at q
    · rename_i xs em
      split at q
      · rename_i c
        obtain ⟨vs, h1, h2⟩ := hr.sq_at em ha
        have c' : ((noRefs xs = true ∧ (∀ x ∈ xs, ∀ y ∈ xs, alk x y = true)) ∧ ((∀ x ∈ xs, tupNe x = true) ∨ ∀ x ∈ xs, atomB x = true)) ∧ depths xs ≤ 58 := by
          simpa only [srtOk, Bool.and_eq_true, Bool.or_eq_true, List.all_eq_true, decide_eq_true_eq] using c
        obtain ⟨⟨⟨nr, al⟩, kd⟩, dz⟩ := c'
        have nrm := noRefs_mem nr
        refine cr_sortedD hu ps s σ' H _ ws Q I r ⟨_, vs, pds xs, rfl, by rw [← gk]; exact h1, by rw [← gk]; exact (VRs.dp h2 nr).1, fun d hd d' hd' => ?_, ?_, fun d hd => ?_, fun p hp => q.make hr (srt_pairs h2 nr al) hp⟩
        · obtain ⟨x, hx, rfl⟩ := pds_mem hd
          obtain ⟨y, hy, rfl⟩ := pds_mem hd'
          rw [alike_pd _ _ (nrm x hx) (nrm y hy)]
          exact al x hx y hy
        · rcases kd with kd | kd
          · refine .inl fun d hd => ?_
            obtain ⟨x, hx, rfl⟩ := pds_mem hd
            have := kd x hx
            unfold tupNe at this
            split at this
            · exact ⟨_, _, by simp only [pd, pds]; rfl⟩
            · cases this
          · refine .inr fun d hd => ?_
            obtain ⟨x, hx, rfl⟩ := pds_mem hd
            have := kd x hx
            unfold atomB at this
            split at this
            · exact ⟨by simp [pd], fun ys => by simp [pd]⟩
            · exact ⟨by simp [pd], fun ys => by simp [pd]⟩
            · exact ⟨by simp [pd], fun ys => by simp [pd]⟩
            · cases this
        · obtain ⟨x, hx, rfl⟩ := pds_mem hd
          rw [pd_depth]
          have := depths_mem hx
          omega
      · exact q.elim
    · exact q.elim
  | _ => exact q.elim
end
end Mi
namespace Mi
open PySem L2
section
variable {X : Cx} {G : Gs} {W : WX} {cf : Cf} {ct : Ct} {lv : Nat}
end
end Mi
end MiSrtS

section MiSrtTS
set_option Elab.async false
set_option linter.all false
set_option maxRecDepth 100000
set_option maxHeartbeats 2000000
/-! sorted(d) of a dict by tuple keys -/
namespace L2
open PySem PySem.Spec PyProof.Rows
def kD : Key → PyData
  | .inl i => .int i
  | .inr s => .str s
def keyD (k : List Key) : PyData := .tuple (k.map kD)
theorem key_reads {h : Heap} : ∀ {k : List Key} {us : List Value}, Vals (k.map kV) us → ReadsAll h us (k.map kD) []
  | [], _, .nil => .nil
  | .inl i :: k, _, .cons r t => by
    obtain ⟨t0, rfl⟩ := r
    exact ReadsAll.cons (as := []) (.int _ _) (key_reads t)
  | .inr s :: k, _, .cons r t => by
    obtain ⟨t0, rfl⟩ := r
    exact ReadsAll.cons (as := []) (.str _ _) (key_reads t)
theorem keyD_depth (k : List Key) : (keyD k).depth = 1 := by
  have : ∀ k : List Key, PyData.depthAll (k.map kD) = 0 := fun k => by
    induction k with
    | nil => simp [PyData.depthAll]
    | cons x k ih => cases x <;> simp [PyData.depthAll, PyData.depth, kD, ih]
  simp [keyD, PyData.depth, this]
theorem each_keys {H : Hp} {h : Heap} : ∀ {kvs : List (List Key × V)} {ks : List (List Key × Addr × Value)}, Paired (fun (p : List Key × V) (q : List Key × Addr × Value) => p.1 = q.1 ∧ H q.2.1 = some (.tup (p.1.map kV)) ∧ RelV p.2 q.2.2) kvs ks →
    (∀ (b : Addr) (k : List Key), H b = some (.tup (k.map kV)) → ∃ its : List Value, Vals (k.map kV) its ∧ IsTup h b its.toArray) →
    PySem.W.EachIs (fun u (b : PyData × V) => RelV b.2 u) (ks.map fun x => Value.ref x.2.1) ((kvs.map fun p => keyD p.1).zip (ks.map fun x => V.ref x.2.1)) ∧
    PySem.W.EachIs (fun u (b : PyData × V) => ∃ as, Reads h u b.1 as ∧ as = []) (ks.map fun x => Value.ref x.2.1) ((kvs.map fun p => keyD p.1).zip (ks.map fun x => V.ref x.2.1))
  | _, _, .nil, _ => ⟨.nil, .nil⟩
  | _, _, .cons a t, hh => by
    obtain ⟨r1, r2⟩ := each_keys t hh
    obtain ⟨its, rv, o, h1, h2, n, h3⟩ := hh _ _ a.2.1
    refine ⟨.cons rfl r1, .cons ⟨[], ?_, rfl⟩ r2⟩
    exact Reads.tuple h1 h2 h3 (key_reads rv)
theorem cr_sortedT {X : Cx} (hc : X.calm = true) (hu : X.A.units + 65 < cLine) : CallR X (.builtin "sorted") (fun xs H Q => ∃ d kvs, xs = [V.ref d] ∧ Rd H d (.dT kvs) ∧ PySem.W.AllAlike (kvs.map fun p => keyD p.1) ∧ PySem.W.Sortable (kvs.map fun p => keyD p.1) ∧
    ∀ p bs, H p = none → IsKeys H kvs bs → Q (.ref p) (upd H p (.lst ((((kvs.map fun p => keyD p.1).zip (bs.map V.ref)).mergeSort (PySem.W.dataLe false fun b => b.1)).map fun b => b.2)))) := by
  intro pins s σ H xs us Q I r h
  obtain ⟨d, kvs, rfl, hd, hal, hsk, q⟩ := h
  obtain ⟨u, rfl, rx⟩ := r.one
  cases rx
  obtain ⟨z, hs, ks, pr, o, es, ep, ho, hx, hdt, he, hn⟩ := (show ObjOk X.prog X.w H s.heap d (.dT kvs) from hd.ok I.hok)
  have l1 : es.size = ks.length := size_of_entries he
  have l2 : kvs.length = ks.length := Paired.length pr
  refine Calls.call_function_entry PyProof.Rows.kind_sorted PyProof.Rows.plain_sorted PyProof.Rows.entry_sorted (PyProof.Rows.args_sorted1 _) ?_
  unfold Builtin.«sorted»
  refine wpAny_bind (m := checkCount "sorted" 1 1 _) (wpAny_pure ?_)
  refine wpAny_bind (PySem.W.kdu_collect (A := X.A.in1) (kdl_raw hs hx hdt) (I.ok.hd hc) ho (by omega) fun h' tk acc' kp it => ?_)
  have ea : acc'.toList = ks.map fun x => Value.ref x.2.1 := by
    have hl : acc'.toList.length = ks.length := by rw [Array.length_toList, it.1]; exact l1
    apply List.ext_getElem?
    intro j
    rw [List.getElem?_map]
    cases hj : acc'.toList[j]? with
    | none =>
      have h1 := List.getElem?_eq_none_iff.mp hj
      rw [List.getElem?_eq_none (by omega)]
      all_goals rfl
    | some v =>
      obtain ⟨en, hen, hv⟩ := it.2 j v (by rw [← Array.getElem?_toList]; exact hj)
      have qe := entry_at he j
      rw [hen] at qe
      cases hb : ks[j]? with
      | none =>
        rw [hb] at qe
        exact nomatch (show some en = none from qe)
      | some b =>
        rw [hb] at qe
        have e2 : en = entryOfKey (tupleKind (mixKind X.prog X.w)) b := Option.some.inj qe
        rw [hv, e2]
        all_goals rfl
  have I1 : Inv X pins σ H { s with heap := h', toks := tk } := I.kept kp
  have hlen : acc'.toList.length = ks.length := by rw [ea, List.length_map]
  refine wpAny_bind (wpAny_newList ?_ (by omega))
  have hoL : (h'.push (seqObj "list" acc'.toList.toArray 0)).get? h'.objs.size = some (seqObj "list" acc'.toList.toArray 0) := Heap.get?_push_size _ rfl
  show wpAny _ _ _ _ _ { s with heap := h'.push (seqObj "list" acc'.toList.toArray 0), toks := tk }
  obtain ⟨q1, q2⟩ := each_keys (h := h'.push (seqObj "list" acc'.toList.toArray 0)) pr fun b k hb => by
    obtain ⟨_, its, rv, o', e1, e2, n, e3⟩ := (show ObjOk X.prog X.w H h' b (.tup (k.map kV)) from I1.hok b _ hb)
    exact ⟨its, rv, o', Heap.get?_push_of_some _ e1, e2, n, e3⟩
  have hzl : ((kvs.map fun p => keyD p.1).zip (ks.map fun x => V.ref x.2.1)).length = ks.length := by
    rw [List.length_zip, List.length_map, List.length_map]
    omega
  have hfs : ((kvs.map fun p => keyD p.1).zip (ks.map fun x => V.ref x.2.1)).map (fun b => b.1) = kvs.map fun p => keyD p.1 := Mi.zip_fst (by rw [List.length_map, List.length_map]; exact l2)
  have q2' : PySem.W.EachIs (fun v (b : PyData × V) => ∃ as, Reads (h'.push (seqObj "list" acc'.toList.toArray 0)) v b.1 as ∧ h'.objs.size ∉ as) acc'.toList ((kvs.map fun p => keyD p.1).zip (ks.map fun x => V.ref x.2.1)) := by
    have := q2.mono (R' := fun v (b : PyData × V) => ∃ as, Reads (h'.push (seqObj "list" acc'.toList.toArray 0)) v b.1 as ∧ h'.objs.size ∉ as) fun v b ⟨as, r, e⟩ => ⟨as, r, by rw [e]; simp⟩
    generalize h'.push (seqObj "list" acc'.toList.toArray 0) = hh at this ⊢
    rw [ea]
    exact this
  refine wpAny_bind (wpAny_holding (PySem.W.list_sort_data (s := { s with heap := h'.push (seqObj "list" acc'.toList.toArray 0), toks := tk }) (a := h'.objs.size) (vs := acc'.toList) (bs := (kvs.map fun p => keyD p.1).zip (ks.map fun x => V.ref x.2.1)) (enc := fun b => b.1) (R := fun u b => RelV b.2 u) hoL
    (by rw [ea]; exact q1) q2' (by rw [hfs]; exact hal) (by rw [hfs]; exact hsk) (by omega) (fun b hb => ?_) fun out h1 h2 => ?_))
  · have hm := (List.of_mem_zip hb).1
    obtain ⟨p, _, e⟩ := List.mem_map.mp hm
    rw [← e, keyD_depth]
    show X.A.units + 1 + 1 + 1 < cLine
    omega
  · obtain ⟨e', he'⟩ := PyProof.Rows.sortedHeap_at (vs := acc'.toList) (out := out.toArray) hoL
    have hl2 : ((((kvs.map fun p => keyD p.1).zip ((ks.map fun x => x.2.1).map V.ref)).mergeSort (PySem.W.dataLe false fun b => b.1)).map fun b => b.2).length ≤ sizeLine := by
      rw [List.length_map, List.length_mergeSort, List.length_zip, List.length_map]
      omega
    have e3 : (ks.map fun x => V.ref x.2.1) = (ks.map fun x => x.2.1).map V.ref := by rw [List.map_map]; rfl
    rw [e3] at h2
    refine wpAny_pure ⟨_, rfl, .ref h'.objs.size, upd H h'.objs.size (.lst ((((kvs.map fun p => keyD p.1).zip ((ks.map fun x => x.2.1).map V.ref)).mergeSort (PySem.W.dataLe false fun b => b.1)).map fun b => b.2)), I1.laid (t' := tk) (fun b u e => ?_) (Nat.le_refl _)
      (show ObjOk X.prog X.w _ _ _ (.lst _) from ⟨hl2, out, e', Mi.each_vals h2, he'⟩), rfl, q _ _ (I1.hok.fresh (Nat.le_refl _)) (isKeys_of pr)⟩
    have hb : b < h'.objs.size := Heap.lt_size e
    rw [PyProof.Rows.sortedHeap_old (Nat.ne_of_lt hb) (by rw [size_push']; exact Nat.lt_succ_of_lt hb)]
    exact Heap.get?_push_of_some _ e
end L2
end MiSrtTS

section MiDitS
set_option Elab.async false
set_option linter.all false
set_option maxRecDepth 100000
namespace Mi
open PySem L2
theorem KTs.vrs {K : PySem.W.Frag} {ι : List Addr} {H : Hp} : ∀ {xs : List Val} {ks : List Key}, KTs K ι H xs ks → VRs K ι H xs (ks.map kV)
  | _, _, .nil => .nil
  | _, _, .cons a t => .cons a.2 (KTs.vrs t)
theorem KTs.pds {K : PySem.W.Frag} {ι : List Addr} {H : Hp} : ∀ {xs : List Val} {ks : List Key}, KTs K ι H xs ks → Mi.pds xs = ks.map kD
  | _, _, .nil => rfl
  | x :: xs, _, .cons (b := k) a t => by
    have e := KTs.pds t
    have h := a.1
    simp only [Mi.pds, List.map_cons, e]
    congr 1
    cases x with
    | int i => cases h; rfl
    | str s => cases h; rfl
    | _ => cases h
theorem TVs.keys {K : PySem.W.Frag} {ι : List Addr} {H : Hp} : ∀ {kvs : List (List Val × Val)} {ws : List (List Key × V)}, TVs K ι H kvs ws → Mi.pds (kvs.map fun p => Val.tup p.1) = ws.map fun p => keyD p.1
  | _, _, .nil => rfl
  | p :: kvs, _, .cons (b := q) a t => by
    have e := TVs.keys t
    simp only [List.map_cons, Mi.pds, e]
    congr 1
    unfold keyD
    rw [← a.1.pds]
    simp only [pd]
theorem TVs.vrs {K : PySem.W.Frag} {ι : List Addr} {H : Hp} : ∀ {kvs : List (List Val × Val)} {ws : List (List Key × V)}, TVs K ι H kvs ws → ∀ {bs : List Addr}, IsKeys H ws bs → VRs K ι H (kvs.map fun p => Val.tup p.1) (bs.map V.ref)
  | _, _, .nil, _, .nil => .nil
  | _, _, .cons a t, _, .cons hb tb => .cons (.tup (SqT.of hb) a.1.vrs) (TVs.vrs t tb)
def rSrt2 (G : Gs) (W : WX) : List V → Hp → VK → Prop := fun us H Q => ∃ σ ι M a v, us = [v] ∧ HR G ι M H ∧ VR G.K ι H a v ∧ PostL G W σ ι H Q (match a with
    | .ref n => match M[n]? with
      | some (.lst xs) => if srtOk xs then .ok (srtV xs) M else .bad
      | some (.dit kvs) => if srtOk (kvs.map fun p => .tup p.1) then .ok (srtV (kvs.map fun p => .tup p.1)) M else .bad
      | some (.dic kvs) => if kvs.isEmpty then .ok [] M else .bad
      | _ => .bad
    | _ => .bad)
section
variable {X : Cx} {G : Gs} {W : WX} {cf : Cf} {ct : Ct} {lv : Nat}
theorem srt_run2 (g : Good X G W cf ct lv) : CallR X (.builtin "sorted") (rSrt2 G W) := by
  rintro ps s σ' H us ws Q I r ⟨σ, ι, M, a, v, rfl, hr, ra, q⟩
  have gk := g.gk
  have hu : X.A.units + 65 < cLine := by have := g.room.un; omega
  cases ra with
  | ref ha =>
    rename_i n p
    cases em : M[n]? with
    | none => simp only [em] at q; exact q.elim
    | some o =>
      cases o with
      | lst xs =>
        simp only [em] at q
        exact srt_run (W := W) g g.hu ps s σ' H _ ws Q I r ⟨σ, ι, M, .ref n, _, rfl, hr, .ref ha, by simp only [em]; exact q⟩
      | dic kvs =>
        simp only [em] at q
        split at q
        · rename_i ce
          obtain rfl : kvs = [] := List.isEmpty_iff.mp ce
          obtain ⟨ws, e1, e2⟩ := hr.dic_at em ha
          cases e2
          have hp : ∀ pp, (upd H p (.dT [])) pp = none → H pp = none ∧ pp ≠ p := fun pp e => by
            by_cases z : pp = p
            · rw [z, upd_same] at e; cases e
            · rw [upd_ne z] at e; exact ⟨e, z⟩
          have J := Inv.retype I e1
          refine wpAny_mono (cr_sortedT g.calm hu ps s σ' (upd H p (.dT [])) _ ws (fun v H' => ∃ pp, v = .ref pp ∧ H pp = none ∧ pp ≠ p ∧ H' = upd (upd H p (.dT [])) pp (.lst [])) J r ⟨p, [], rfl, .inl upd_same, fun d hd => (by cases hd), .inl fun d hd => (by cases hd), fun pp bs e _ => ?_⟩) (fun u s1 hh => ?_) fun _ _ z => z
          · obtain ⟨h1, h2⟩ := hp pp e
            exact ⟨pp, rfl, h1, h2, by simp⟩
          · obtain ⟨v, H', J', rv, pp, rfl, h1, h2, rfl⟩ := hh
            have hq := q.make (xs := []) (vs := []) hr .nil h1
            refine ⟨.ref pp, _, Inv.retypeK J' (a := p) ?_, rv, ?_⟩
            · rw [upd_ne (Ne.symm h2), upd_same]
            · have e : upd (upd (upd H p (.dT [])) pp (.lst [])) p (.dK []) = upd H pp (.lst []) := by
                funext b
                unfold upd
                by_cases z1 : b = p
                · subst z1
                  rw [if_pos rfl, if_neg (Ne.symm h2), e1]
                · rw [if_neg z1]
                  by_cases z2 : b = pp
                  · rw [if_pos z2, if_pos z2]
                  · rw [if_neg z2, if_neg z2, if_neg z1]
              rw [e]
              exact hq
        · exact q.elim
      | exv c => simp only [em] at q; exact q.elim
      | dit kvs =>
        simp only [em] at q
        obtain ⟨vs, h1, h2⟩ := hr.dit_at em ha
        split at q
        · rename_i c
          generalize hxs : (kvs.map fun p => Val.tup p.1) = xs at c q
          have c' : ((noRefs xs = true ∧ (∀ x ∈ xs, ∀ y ∈ xs, alk x y = true)) ∧ ((∀ x ∈ xs, tupNe x = true) ∨ ∀ x ∈ xs, atomB x = true)) ∧ depths xs ≤ 58 := by
            simpa only [srtOk, Bool.and_eq_true, Bool.or_eq_true, List.all_eq_true, decide_eq_true_eq] using c
          obtain ⟨⟨⟨nr, al⟩, kd⟩, dz⟩ := c'
          have nrm := noRefs_mem nr
          have ek : pds xs = vs.map fun p => keyD p.1 := by rw [← hxs]; exact h2.keys
          refine cr_sortedT g.calm hu ps s σ' H _ ws Q I r ⟨_, vs, rfl, .inl h1, fun d hd d' hd' => ?_, ?_, fun p bs hp ik => q.make hr ?_ hp⟩
          · rw [← ek] at hd hd'
            obtain ⟨x, hx, rfl⟩ := pds_mem hd
            obtain ⟨y, hy, rfl⟩ := pds_mem hd'
            rw [alike_pd _ _ (nrm x hx) (nrm y hy)]
            exact al x hx y hy
          · rw [← ek]
            rcases kd with kd | kd
            · refine .inl fun d hd => ?_
              obtain ⟨x, hx, rfl⟩ := pds_mem hd
              have := kd x hx
              unfold tupNe at this
              split at this
              · exact ⟨_, _, by simp only [pd, pds]; rfl⟩
              · cases this
            · refine .inr fun d hd => ?_
              obtain ⟨x, hx, rfl⟩ := pds_mem hd
              have := kd x hx
              unfold atomB at this
              split at this
              · exact ⟨by simp [pd], fun ys => by simp [pd]⟩
              · exact ⟨by simp [pd], fun ys => by simp [pd]⟩
              · exact ⟨by simp [pd], fun ys => by simp [pd]⟩
              · cases this
          · have hv : VRs G.K ι H xs (bs.map V.ref) := by rw [← hxs]; exact h2.vrs ik
            have := srt_pairs hv nr al
            rw [ek] at this
            exact this
        · exact q.elim
  | _ => exact q.elim
theorem l_srt (g : Good X G W cf ct lv) {a : Expr} {m : E} {p pos : Pos} (ha : PE X a (tE G W cf m)) (hn : notStar a = true) (hg : glB ct.sc "sorted" = true) (hb : ct.gl "sorted" = some .blt) : PE X (.Call (.Name "sorted" p) [a] [] pos) (tL G W cf (.srt m)) := by
  refine (pe_callB (srt_run2 (W := W) g) (glB_ok g.sc hg) (g.blt _ hb) PyProof.Rows.boot_sorted (pa_cons ha pa_nil (star_ok hn)) (by decide) (by decide) (star_ok hn) (stars_ok (es := []) rfl)).imp fun σ H Q q => ?_
  obtain ⟨ι, τ, M, hs, hr, q⟩ := q
  unfold evL at q
  refine ⟨ι, τ, M, hs, hr, Post.bindL q fun x M1 ι1 H1 v _ l1 hr1 r1 q1 => ?_⟩
  exact ⟨σ, ι1, M1, x, v, rfl, hr1, r1, q1⟩
/-! ### starred items -/
def tXs (G : Gs) (W : WX) (cf : Cf) (ms : Sx) : TA := fun σ H Q => ∃ ι τ M, SR G ι H τ σ ∧ HR G ι M H ∧ Post G W σ ι H (RVs G) Q (evx cf ms τ M)
theorem tx_nil : PA X [] (tXs G W cf .nil) := by
  refine pa_nil.imp fun σ H Q q => ?_
  obtain ⟨ι, τ, M, hs, hr, q⟩ := q
  unfold evx at q
  exact q.here hr .nil
theorem tx_cons {e : Expr} {es : List Expr} {m : E} {ms : Sx} (he : PE X e (tE G W cf m)) (hes : PA X es (tXs G W cf ms)) (hn : notStar e = true) : PA X (e :: es) (tXs G W cf (.cons m ms)) := by
  refine (pa_cons he hes (star_ok hn)).imp fun σ H Q q => ?_
  obtain ⟨ι, τ, M, hs, hr, q⟩ := q
  unfold evx at q
  refine ⟨ι, τ, M, hs, hr, q.bind fun x M1 ι1 H1 v _ l1 hr1 r1 q1 => ?_⟩
  refine ⟨ι1, τ, M1, hs.mono l1, hr1, q1.bind fun xs M2 ι2 H2 vs _ l2 hr2 r2 q2 => ?_⟩
  exact q2.here hr2 (.cons (r1.mono l2) r2)
theorem e_tupx {es : List Expr} {ms : Sx} {k : Nat} {pos : Pos} (h : PA X es (tXs G W cf ms)) : PE X (.Tuple es k pos) (tE G W cf (.tupx ms)) := by
  refine (pe_tup h).imp fun σ H Q q => ?_
  obtain ⟨ι, τ, M, hs, hr, q⟩ := q
  unfold ev at q
  refine ⟨ι, τ, M, hs, hr, q.bind fun xs M1 ι1 H1 vs _ l1 hr1 r1 q1 => ?_⟩
  split at q1
  · rename_i c
    refine ⟨by rw [← r1.length, ← lim_eq]; exact c, fun p hp => ?_⟩
    exact q1 ι1 _ _ (Le.new hp) (hr1.new hp) (vr_tup_new hp r1)
  · exact q1.elim
theorem tx_star (g : Good X G W cf ct lv) {e : Expr} {es : List Expr} {m : E} {ms : Sx} {p : Pos} (he : PE X e (tE G W cf m)) (hes : PA X es (tXs G W cf ms)) : PA X (.Starred e p :: es) (tXs G W cf (.star m ms)) := by
  refine (StX.pa_star he hes).imp fun σ H Q q => ?_
  have gk := g.gk
  obtain ⟨ι, τ, M, hs, hr, q⟩ := q
  unfold evx at q
  refine ⟨ι, τ, M, hs, hr, q.bind fun x M1 ι1 H1 v _ l1 hr1 r1 q1 => ?_⟩
  have key : ∀ {ys : List Val} {a : Addr} {vs : List V}, starV M1 x = some ys → v = V.ref a → (SqT X.K H1 a vs ∨ SqL X.K H1 a vs) → VRs G.K ι1 H1 ys vs → ∃ p xs, v = V.ref p ∧ (SqT X.K H1 p xs ∨ SqL X.K H1 p xs) ∧ tXs G W cf ms σ H1 fun ys H2 => Q (xs ++ ys) H2 := by
    intro ys a vs e1 e2 e3 rv
    rw [e1] at q1
    refine ⟨a, vs, e2, e3, ι1, τ, M1, hs.mono l1, hr1, q1.bind fun xs M2 ι2 H2 ws _ l2 hr2 r2 q2 => ?_⟩
    exact q2.here hr2 ((VRs.mono l2 rv).append r2)
  cases r1 with
  | tup hT r => exact key rfl rfl (.inl (by rw [← gk]; exact hT)) r
  | frz hT r => exact key rfl rfl (.inr (by rw [← gk]; exact hT.sq)) r
  | @ref n a ha =>
    cases em : M1[n]? with
    | none => simp only [starV, em] at q1; exact q1.elim
    | some o =>
      cases o with
      | lst xs =>
        obtain ⟨vs, h1, h2⟩ := hr1.sq_at em ha
        exact key (by simp only [starV, em]) rfl (.inr (by rw [← gk]; exact h1)) h2
      | _ => simp only [starV, em] at q1; exact q1.elim
  | _ => exact q1.elim
/-! ### d[t[lo:hi]] = z -/
theorem st_sixk (g : Good X G W cf ct lv) {o a e : Expr} {lo hi : Option Expr} {mo ma me : E} {ml mh : Eo} {p p2 p3 pos : Pos} (ho : PE X o (tE G W cf mo)) (ha : PE X a (tE G W cf ma)) (hlo : PO X lo (tEo G W cf ml)) (hhi : PO X hi (tEo G W cf mh)) (he : PE X e (tE G W cf me)) (hl : notLc e = true) (ht : notTup e = true) :
    PS X (.Assign [.Subscript o (.Subscript a (.Slice lo hi none p2) p3) p] e pos) (tSt G W cf (.sixk mo ma ml mh me)) := by
  have hsole : swapsWithSole [.Subscript o (.Subscript a (.Slice lo hi none p2) p3) p] e pos.line X.env = pure false := by unfold swapsWithSole; exact notLc_ok hl
  refine (ps_asg (pos := pos) he (pg_sub (pos := p) ho (pe_slice (pos := p3) (p2 := p2) sl_tup ha hlo hhi) (set_dictT g.hu1) (sub_assign rfl)) hsole (notTup_ok ht) rfl).imp fun D σ H q => ?_
  have gk := g.gk
  obtain ⟨ι, τ, M, hs, hr, q⟩ := q
  unfold ex at q
  refine ⟨ι, τ, M, hs, hr, PostO.on q hs fun z M1 ι1 H1 w _ l1 hr1 r1 q1 => ?_⟩
  refine ⟨ι1, τ, M1, hs.mono l1, hr1, PostO.on q1 (hs.mono l1) fun x M2 ι2 H2 v _ l2 hr2 r2 q2 => ?_⟩
  have s2 := hs.mono (l1.trans l2)
  refine ⟨ι2, τ, M2, s2, hr2, PostO.on q2 s2 fun y M3 ι3 H3 u _ l3 hr3 r3 q3 => ?_⟩
  have s3 := s2.mono l3
  refine ⟨ι3, τ, M3, s3, hr3, PostO.on q3 s3 fun l M4 ι4 H4 l' _ l4 hr4 r4 q4 => ?_⟩
  obtain rfl : l' = l := r4
  have s4 := s3.mono l4
  refine ⟨ι4, τ, M4, s4, hr4, PostO.on q4 s4 fun h M5 ι5 H5 h' _ l5 hr5 r5 q5 => ?_⟩
  obtain rfl : h' = h := r5
  have s5 := s4.mono l5
  have rx := ((r2.mono l3).mono l4).mono l5
  have ry := (r3.mono l4).mono l5
  have rz := (((r1.mono l2).mono l3).mono l4).mono l5
  cases hk : sixkV x y l' h' z M5 with
  | none => rw [hk] at q5; exact q5.elim
  | some M6 =>
    rw [hk] at q5
    cases rx with
    | @ref n a5 ha5 =>
        cases ry with
        | @tup b xs vs hT rv =>
          simp only [sixkV] at hk
          split at hk
          · rename_i c
            obtain ⟨c1, c2⟩ := Bool.and_eq_true_iff.mp c
            have c2 := of_decide_eq_true c2
            obtain ⟨ks, hks, hkt⟩ := keys_ok (rv.cutv l' h') c1
            refine ⟨b, vs, rfl, by rw [← gk]; exact hT, fun hw => ?_, fun p hp => ?_⟩
            · rw [sIx_eq, sIx_eq, ← rv.length] at hw
              rw [cut_whole hw.1 hw.2] at c2
              exact absurd c2 (Nat.lt_irrefl _)
            · rw [hks]
              have l6 : Le ι5 H5 ι5 (upd H5 p (.tup (ks.map kV))) := Le.new hp
              have hr6 := hr5.new (u := .tup (ks.map kV)) hp
              have hkt6 : KTs G.K ι5 (upd H5 p (.tup (ks.map kV))) (Mi.cut xs l' h') ks := L2.Paired.mapP hkt fun _ _ q => ⟨q.1, q.2.mono l6⟩
              have rz6 := rz.mono l6
              have fin : ∀ {kvs : List (List Val × Val)} {ws : List (List Key × V)} {ob : Obj}, M5[n]? = some ob → L2.Mut ((upd H5 p (.tup (ks.map kV))) a5) → TVs G.K ι5 (upd H5 p (.tup (ks.map kV))) kvs ws → ((upd H5 p (.tup (ks.map kV))) a5 = some (.dT ws) ∨ (upd H5 p (.tup (ks.map kV))) a5 = some (.dK []) ∧ ws = []) → kvs.length < LIM →
                  M6 = M5.set n (.dit (ditPut kvs (Mi.cut xs l' h') z)) → rSetT (.ref a5) (.ref p) w (upd H5 p (.tup (ks.map kV))) (fun H' => D.nx σ H') := by
                intro kvs ws ob e1 e2 e3 e4 e5 e6
                obtain ⟨h1, h2⟩ := hr6.setT e1 ha5 e2 (e3.put hkt6 rz6)
                refine ⟨a5, p, ws, ks, rfl, rfl, e4, upd_same, by rw [← e3.len, ← lim_eq]; exact e5, ?_⟩
                rw [e6] at q5
                exact q5 ι5 _ σ (l6.trans h2) h1 (s5.mono (l6.trans h2))
              cases em : M5[n]? with
              | none => rw [em] at hk; cases hk
              | some ob =>
                rw [em] at hk
                cases ob with
                | dic kvs =>
                  simp only at hk
                  split at hk
                  · rename_i ce
                    obtain rfl : kvs = [] := List.isEmpty_iff.mp ce
                    cases hk
                    obtain ⟨ws, e1, e2⟩ := hr6.dic_at em ha5
                    cases e2
                    exact fin (kvs := []) (ws := []) em (mut_dK e1) .nil (.inr ⟨e1, rfl⟩) (by rw [lim_val]; simp) rfl
                  · cases hk
                | dit kvs =>
                  simp only at hk
                  split at hk
                  · rename_i ce
                    cases hk
                    obtain ⟨ws, e1, e2⟩ := hr6.dit_at em ha5
                    exact fin em (by rw [e1]; exact True.intro) e2 (.inl e1) (of_decide_eq_true ce) rfl
                  · cases hk
                | _ => cases hk
          · cases hk
        | _ => cases hk
    | _ => cases hk
end
end Mi
end MiDitS

section MiRunAS
set_option Elab.async false
set_option linter.all false
set_option maxRecDepth 100000
namespace Mi
open PySem L2
section
variable {X : Cx} {G : Gs} {W : WX} {cf : Cf} {ct : Ct} {lv : Nat}
/-! ### among a fresh list -/
theorem any_pd : ∀ {xs : List Val} {x : Val}, noRefs xs = true → noRef x = true → ((pds xs).any fun z => PyData.eqv z (pd x)) = xs.any fun z => eqV z x
  | [], x, _, _ => by simp [pds]
  | y :: ys, x, h, hx => by
    have h' : noRef y = true ∧ noRefs ys = true := by simpa [noRefs] using h
    simp only [pds, List.any_cons]
    rw [eqv_pd y x h'.1 hx, any_pd h'.2 hx]
theorem inl_read (g : Good X G W cf ct lv) {ma : E} {l : L} {neg : Bool} : ∀ {σ : L2.St} {H : Hp} {Q : VK}, tE G W cf (.inl neg ma l) σ H Q → tOp (fun x y H Q => ∃ d ds, Dp X.K H x d ∧ Dp X.K H y (.list ds) ∧ SeqAt.shaped d = true ∧ SeqAt.shaped (.list ds) = true ∧ Q (.bl (if neg then !(ds.any fun z => PyData.eqv z d) else ds.any fun z => PyData.eqv z d)) H) (tE G W cf ma) (tL G W cf l) σ H Q := by
    have gk := g.gk
    intro σ H Q q
    obtain ⟨ι, τ, M, hs, hr, q⟩ := q
    unfold ev at q
    refine ⟨ι, τ, M, hs, hr, q.bind fun x M1 ι1 H1 v _ l1 hr1 r1 q1 => ?_⟩
    refine ⟨ι1, τ, M1, hs.mono l1, hr1, PostL.bind q1 fun xs M2 ι2 H2 w _ l2 hr2 f2 q2 => ?_⟩
    obtain ⟨D, vs, rfl, hD, rv, np, h0⟩ := f2
    obtain ⟨k, e, q3⟩ := q2.opt
    obtain ⟨b, e2, rfl⟩ := Option.map_eq_some_iff.mp e
    unfold inl1 at e2
    split at e2
    · rename_i c
      have c' : ((noRef x = true ∧ noRefs xs = true) ∧ depth x ≤ 60) ∧ depths xs ≤ 59 := by simpa using c
      cases e2
      have r1' := r1.mono l2
      have z1 := r1'.dp c'.1.1.1
      have z2 := VRs.dp rv c'.1.1.2
      refine ⟨pd x, pds xs, by rw [← gk]; exact z1.1, by rw [← gk]; exact .lst (SqL.of hD) z2.1, r1'.shaped c'.1.1.1 c'.1.2, ?_, ?_⟩
      · have hd : (PyData.list (pds xs)).depth ≤ 64 := by
          simp only [PyData.depth]
          rw [pds_depth]
          omega
        have hc : (PyData.list (pds xs)).canLay0 = true := by
          simp only [PyData.canLay0]
          exact z2.2
        unfold SeqAt.shaped
        rw [hc, Bool.true_and]
        exact decide_eq_true hd
      · rw [any_pd c'.1.1.2 c'.1.1.1]
        exact q3.here hr2 (.bl _)
    · cases e2
theorem e_inl (g : Good X G W cf ct lv) {a b : Expr} {ma : E} {l : L} {neg : Bool} {pos : Pos} (ha : PE X a (tE G W cf ma)) (hb : PE X b (tL G W cf l)) (hn : notSet b = true) : PE X (.Compare a [if neg then .NotIn else .In] [b] pos) (tE G W cf (.inl neg ma l)) := by
  have hu : X.A.units + 65 < cLine := by have := g.room.un; omega
  cases neg with
  | false => exact (pe_cmpR (op_inD hu) ha hb (notSet_ok hn)).imp fun σ H Q q => inl_read g q
  | true => exact (pe_cmpR (op_notInD hu) ha hb (notSet_ok hn)).imp fun σ H Q q => inl_read g q
theorem t_inl (g : Good X G W cf ct lv) {a b : Expr} {ma : E} {l : L} {neg : Bool} {pos : Pos} (ha : PE X a (tE G W cf ma)) (hb : PE X b (tL G W cf l)) (hn : notSet b = true) : PT X (.Compare a [if neg then .NotIn else .In] [b] pos) (tT G W cf (.inl neg ma l)) := by
  have hu : X.A.units + 65 < cLine := by have := g.room.un; omega
  have key : ∀ {σ : L2.St} {H : Hp} {Q : Bool → Hp → Prop}, tT G W cf (.inl neg ma l) σ H Q → tE G W cf (.inl neg ma l) σ H (fun x H' => ∃ k, x = .bl k ∧ Q k H') := by
    intro σ H Q q
    obtain ⟨ι, τ, M, hs, hr, q⟩ := q
    refine ⟨ι, τ, M, hs, hr, q.bind fun x M1 ι1 H1 v e1 l1 hr1 r1 q1 => ?_⟩
    obtain ⟨k, e, q2⟩ := q1.opt
    unfold ev at e1
    have isb : ∃ b, x = .bl b := by
      cases h1 : ev cf ma τ M with
      | ok x1 M2 =>
        rw [h1] at e1
        cases h2 : evL cf l τ M2 with
        | ok x2 M3 =>
          simp only [Res.bind_ok, h2] at e1
          cases h3 : inl1 neg x1 x2 with
          | none => rw [h3] at e1; cases e1
          | some b => rw [h3] at e1; cases e1; exact ⟨b, rfl⟩
        | exc => simp only [Res.bind_ok, h2] at e1; cases e1
        | bad => simp only [Res.bind_ok, h2] at e1; cases e1
      | exc => rw [h1] at e1; cases e1
      | bad => rw [h1] at e1; cases e1
    obtain ⟨b, rfl⟩ := isb
    cases r1
    cases e
    exact ⟨_, rfl, q2.here hr1 rfl⟩
  cases neg with
  | false => exact (pt_cmpR (op_inD hu) ha hb (notSet_ok hn)).imp fun σ H Q q => inl_read g (key q)
  | true => exact (pt_cmpR (op_notInD hu) ha hb (notSet_ok hn)).imp fun σ H Q q => inl_read g (key q)
/-! ### built-in functions of two -/
def binN : Bn → Str
  | .min => "min" | .max => "max"
theorem e_bin (g : Good X G W cf ct lv) {a b : Expr} {ma mb : E} {f : Bn} {p pos : Pos} (ha : PE X a (tE G W cf ma)) (hb : PE X b (tE G W cf mb)) (hna : notStar a = true) (hnb : notStar b = true) (hg : glB ct.sc (binN f) = true) (hf : ct.gl (binN f) = some .blt) :
    PE X (.Call (.Name (binN f) p) [a, b] [] pos) (tE G W cf (.bin f ma mb)) := by
  have key : ∀ {σ : L2.St} {H : Hp} {Q : VK}, tE G W cf (.bin f ma mb) σ H Q → tCB (fun xs H Q => ∃ i j, xs = [.int i, .int j] ∧ Q (.int (match f with | .min => if j < i then j else i | .max => if j > i then j else i)) H) (tCons (tE G W cf ma) (tCons (tE G W cf mb) tNil)) σ H Q := by
    intro σ H Q q
    obtain ⟨ι, τ, M, hs, hr, q⟩ := q
    unfold ev at q
    refine ⟨ι, τ, M, hs, hr, q.bind fun x M1 ι1 H1 v _ l1 hr1 r1 q1 => ?_⟩
    refine ⟨ι1, τ, M1, hs.mono l1, hr1, q1.bind fun y M2 ι2 H2 w _ l2 hr2 r2 q2 => ?_⟩
    unfold bin1 at q2
    split at q2
    · cases r1; cases r2
      exact ⟨_, _, rfl, q2.here hr2 (.int _)⟩
    · cases r1; cases r2
      exact ⟨_, _, rfl, q2.here hr2 (.int _)⟩
    · exact q2.elim
  cases f with
  | min => exact (pe_callB (call_min2 g.calm) (glB_ok g.sc hg) (g.blt _ hf) PyProof.Rows.boot_min (pa_cons ha (pa_cons hb pa_nil (star_ok hnb)) (star_ok hna)) (by decide +kernel) (by decide +kernel) (star_ok hna) (stars_ok (es := [b]) (by simp [hnb]))).imp fun σ H Q q => key q
  | max => exact (pe_callB (call_max2 g.calm) (glB_ok g.sc hg) (g.blt _ hf) PyProof.Rows.boot_max (pa_cons ha (pa_cons hb pa_nil (star_ok hnb)) (star_ok hna)) (by decide +kernel) (by decide +kernel) (star_ok hna) (stars_ok (es := [b]) (by simp [hnb]))).imp fun σ H Q q => key q
/-! ### join of a list that is ours -/
theorem e_joinv (g : Good X G W cf ct lv) {a b : Expr} {ma mb : E} {ap cp : Pos} (ha : PE X a (tE G W cf ma)) (hb : PE X b (tE G W cf mb)) (hc : notCall0 a = true) (hl : (ap.endLine == cp.line) = true) (hn : notStar b = true) :
    PE X (.Call (.Attribute a "join" ap) [b] [] cp) (tE G W cf (.joinv ma mb)) := by
  refine (pe_bm PySem.F.plainAttrs_str PySem.F.slot_str_join PySem.F.type_str_join mt_join ha (pa_cons hb pa_nil (star_ok hn)) (base_ok hc) (few1 hn) hl (star_ok hn) (stars_ok (es := []) rfl)).imp fun σ H Q q => ?_
  obtain ⟨ι, τ, M, hs, hr, q⟩ := q
  unfold ev at q
  refine ⟨ι, τ, M, hs, hr, q.bind fun x M1 ι1 H1 v _ l1 hr1 r1 q1 => ?_⟩
  cases r1 with
  | str sep hsep =>
    refine ⟨rfl, ι1, τ, M1, hs.mono l1, hr1, Post.bind q1 fun y M2 ι2 H2 w _ l2 hr2 r2 q2 => ?_⟩
    cases r2 with
    | ref hn2 =>
      simp only at q2
      split at q2
      · rename_i xs em
        obtain ⟨vs, h1, h2⟩ := hr2.sq_at em hn2
        split at q2
        · rename_i zs e
          obtain ⟨h3, h4⟩ := strs_ok h2 e
          subst h3
          split at q2
          · rename_i c
            refine ⟨toS sep, _, zs.map toS, rfl, rfl, .inl (by rw [← g.gk]; exact h1), ?_, ?_⟩
            · rw [toS_length, List.length_map, List.map_map]
              have e2 : (Str.length ∘ toS) = List.length := by funext z; exact toS_length z
              rw [e2]
              exact c
            · rw [join_toS]
              exact q2.here hr2 (.str _ (okS_joined hsep h4 c))
          · exact q2.elim
        · exact q2.elim
      · exact q2.elim
    | _ => exact q2.elim
  | _ => exact q1.elim
/-! ### methods of lists -/
def mdN : Md → Str
  | .pop => "pop" | .append => "append" | .insert => "insert"
def mdId : Md → String
  | .pop => "list.pop" | .append => "list.append" | .insert => "list.insert"
def rMd (G : Gs) (W : WX) (m : Md) : V → List V → Hp → VK → Prop := fun x us H Q => ∃ σ ι M a xs, HR G ι M H ∧ VR G.K ι H a x ∧ VRs G.K ι H xs us ∧ Post G W σ ι H (RV G) Q (mtd1 m a xs M)
theorem place_lt {n k : Nat} {i : Int} (h : place n i = some k) : seqIndex? i n = some k ∧ k < n ∧ -(n : Int) ≤ i ∧ i < n := ixN_seq (by rw [← place_eq]; exact h)
theorem VRs.eraseIdx {K : PySem.W.Frag} {ι : List Addr} {H : Hp} {xs : List Val} {vs : List V} (h : VRs K ι H xs vs) (k : Nat) : VRs K ι H (xs.eraseIdx k) (vs.eraseIdx k) := by
  induction xs generalizing vs k with
  | nil => cases h; simp; exact .nil
  | cons y xs ih => cases h with
    | cons hh t =>
      cases k with
      | zero => exact t
      | succ k => exact .cons hh (ih t k)
theorem VRs.dropLast {K : PySem.W.Frag} {ι : List Addr} {H : Hp} {xs : List Val} {vs : List V} (h : VRs K ι H xs vs) : VRs K ι H xs.dropLast vs.dropLast := by
  rw [List.dropLast_eq_take, List.dropLast_eq_take, h.length]
  exact h.take _
theorem md_run (hls : sizeLine < 2 ^ 63) (m : Md) : MtR X (mdId m) (rMd G W m) := by
  rintro ps s σ' H x us v ws Q I rx rs ⟨σ, ι, M, a, xs, hr, ra, rxs, q⟩
  unfold mtd1 at q
  split at q
  · cases ra with
    | @ref n ad hn =>
      split at q
      · rename_i ys em
        obtain ⟨vs, e1, rv⟩ := hr.list_at em hn
        split at q
        · cases rxs with
          | cons ry rn =>
            cases rn
            split at q
            · rename_i c
              refine mt_append ps s σ' H _ _ v ws Q I rx rs ⟨_, vs, _, rfl, rfl, e1, by rw [← rv.length, ← lim_eq]; exact c, ?_⟩
              obtain ⟨h1, h2⟩ := hr.set em hn e1 (rv.append (.cons ry .nil))
              exact q ι _ _ h2 h1 .non
            · exact q.elim
        · rename_i i
          cases rxs with
          | cons ry rn =>
            cases rn
            cases ry
            split at q
            · rename_i k hk
              split at q
              · rename_i y hy
                obtain ⟨w, ew, rw1⟩ := rv.get hy
                obtain ⟨p1, p2, p3, p4⟩ := place_lt hk
                have hl := (I.lstM e1).1
                have hv := rv.length
                refine mt_popAt ps s σ' H _ _ v ws Q I rx rs ⟨_, vs, i, k, w, rfl, rfl, e1, by omega, by omega, by rw [← hv]; exact p1, ew, ?_⟩
                obtain ⟨h1, h2⟩ := hr.set em hn e1 (rv.eraseIdx k)
                exact q ι _ _ h2 h1 (rw1.mono h2)
              · exact q.elim
            · exact q.elim
        · cases rxs
          split at q
          · rename_i y hy
            obtain ⟨w, ew, rw1⟩ := rv.get hy
            refine mt_pop ps s σ' H _ _ v ws Q I rx rs ⟨_, vs, w, rfl, rfl, e1, by rw [← rv.length]; exact ew, ?_⟩
            obtain ⟨h1, h2⟩ := hr.set em hn e1 rv.dropLast
            exact q ι _ _ h2 h1 (rw1.mono h2)
          · exact q.elim
        · rename_i i y
          cases rxs with
          | cons ri rn =>
            cases ri
            cases rn with
            | cons ry rn =>
              cases rn
              split at q
              · rename_i c
                have c' : (0 ≤ i ∧ i < 2 ^ 63) ∧ ys.length < LIM := by simpa using c
                refine mt_insert ps s σ' H _ _ v ws Q I rx rs ⟨_, vs, i, _, rfl, rfl, e1, by rw [← rv.length, ← lim_eq]; exact c'.2, c'.1.1, c'.1.2, ?_⟩
                obtain ⟨h1, h2⟩ := hr.set em hn e1 (((rv.take i.toNat).append (.cons ry .nil)).append (rv.drop i.toNat))
                exact q ι _ _ h2 h1 .non
              · exact q.elim
        · exact q.elim
      · exact q.elim
  · exact q.elim
theorem fewN {env : Env} {es : List Expr} {cp : Pos} (h : es.all notStar = true) (hl : es.length < 20) : ((backTo cp (starEach es env)).all (fun x => !x.1) && (backToKw cp (keywordEach [] env)).all (fun x => x.1.isSome)
      && decide (es.length + ([] : List Keyword).length + (if ([] : List Keyword).isEmpty then 0 else 1) < 30)) = true := by
  have h1 : (backTo cp (starEach es env)).any (·.1) = false := stars_ok h
  have h2 : (backTo cp (starEach es env)).all (fun x => !x.1) = true := by
    rw [List.all_eq_true]
    intro x hx
    have := List.any_eq_false.mp h1 x hx
    simpa using this
  rw [h2]
  have h3 : es.length + ([] : List Keyword).length + (if ([] : List Keyword).isEmpty then 0 else 1) < 30 := by
    simp only [List.length_nil, List.isEmpty_nil, if_true]
    omega
  rw [decide_eq_true h3]
  rfl
theorem tyV_list {ι : List Addr} {H : Hp} {M : Store} {x : Val} {v : V} (hr : HR G ι M H) (r : VR G.K ι H x v) (h : isLst M x = true) : tyV G.K "list" v H := by
  unfold isLst at h
  split at h
  · cases r with
    | @ref n ad hn =>
      split at h
      · rename_i ys em
        obtain ⟨vs, h1, _⟩ := hr.sq_at em hn
        exact .inl ⟨rfl, _, h1⟩
      · cases h
  · cases h
theorem e_mtd (g : Good X G W cf ct lv) {o : Expr} {es : List Expr} {mo : E} {ms : Es} {m : Md} {ap cp : Pos} (ho : PE X o (tE G W cf mo)) (ha : PA X es (tEs G W cf ms)) (hms : es = [] → ms = .nil) (hst : es.all notStar = true) (hlen : es.length < 20) (hc : notCall0 o = true) (hl : (ap.endLine == cp.line) = true) :
    PE X (.Call (.Attribute o (mdN m) ap) es [] cp) (tE G W cf (.mtd m mo ms)) := by
  have hls : sizeLine < 2 ^ 63 := by rw [sizeLine_eq]; decide
  have R := md_run (X := X) (G := G) (W := W) hls m
  have key : ∀ {σ : L2.St} {H : Hp} {Q : VK}, tE G W cf (.mtd m mo ms) σ H Q → tBM X.K "list" (rMd G W m) (tE G W cf mo) (tEs G W cf ms) σ H Q := by
    intro σ H Q q
    obtain ⟨ι, τ, M, hs, hr, q⟩ := q
    unfold ev at q
    refine ⟨ι, τ, M, hs, hr, q.bind fun x M1 ι1 H1 v _ l1 hr1 r1 q1 => ?_⟩
    split at q1
    · rename_i c
      refine ⟨by rw [← g.gk]; exact tyV_list hr1 r1 c, ι1, τ, M1, hs.mono l1, hr1, q1.bind fun xs M2 ι2 H2 vs _ l2 hr2 r2 q2 => ?_⟩
      exact ⟨σ, ι2, M2, x, xs, hr2, r1.mono l2, r2, q2⟩
    · exact q1.elim
  cases es with
  | nil =>
    have e0 := hms rfl
    subst e0
    have key0 : ∀ {σ : L2.St} {H : Hp} {Q : VK}, tE G W cf (.mtd m mo .nil) σ H Q → tBM0 X.K "list" (rMd G W m) (tE G W cf mo) σ H Q := by
      intro σ H Q q
      obtain ⟨ι, τ, M, hs, hr, q⟩ := q
      unfold ev at q
      refine ⟨ι, τ, M, hs, hr, q.bind fun x M1 ι1 H1 v _ l1 hr1 r1 q1 => ?_⟩
      split at q1
      · rename_i c
        unfold evs at q1
        exact ⟨by rw [← g.gk]; exact tyV_list hr1 r1 c, σ, ι1, M1, x, [], hr1, r1, .nil, q1⟩
      · exact q1.elim
    cases m with
    | pop => exact (pe_bm0 PySem.F.plainAttrs_list PySem.F.slot_list_pop PySem.F.type_list_pop R ho (base_ok hc) hl).imp fun σ H Q q => key0 q
    | append => exact (pe_bm0 PySem.F.plainAttrs_list PySem.F.slot_list_append PySem.F.type_list_append R ho (base_ok hc) hl).imp fun σ H Q q => key0 q
    | insert => exact (pe_bm0 PySem.F.plainAttrs_list PySem.F.slot_list_insert PySem.F.type_list_insert R ho (base_ok hc) hl).imp fun σ H Q q => key0 q
  | cons e es =>
    have h' : notStar e = true ∧ es.all notStar = true := by simpa using hst
    have hf := fewN (env := X.env) (cp := cp) hst hlen
    cases m with
    | pop => exact (pe_bm PySem.F.plainAttrs_list PySem.F.slot_list_pop PySem.F.type_list_pop R ho ha (base_ok hc) hf hl (star_ok h'.1) (stars_ok h'.2)).imp fun σ H Q q => key q
    | append => exact (pe_bm PySem.F.plainAttrs_list PySem.F.slot_list_append PySem.F.type_list_append R ho ha (base_ok hc) hf hl (star_ok h'.1) (stars_ok h'.2)).imp fun σ H Q q => key q
    | insert => exact (pe_bm PySem.F.plainAttrs_list PySem.F.slot_list_insert PySem.F.type_list_insert R ho ha (base_ok hc) hf hl (star_ok h'.1) (stars_ok h'.2)).imp fun σ H Q q => key q

/-! ### raise, try -/
theorem pmk_own0 {C : Addr} {bmB : List Value} {B newId initId : String} {x : Str} {p pos : Pos} (F : ExcBaseFacts B newId initId bmB) (q : PySem.W.excIn X.K C bmB newId = true) (gC : X.mg x = some (.ref C)) (kC : PySem.W.keepIn X.K (.ref C) = true) (r : Raises X (.ref C)) (hg : Gl X x)
    (hdb : (x == ("__debug__" : Str)) = false) : PMk X (.Call (.Name x p) [] [] pos) (fun _ H Q => Q (.ref C) none H) := by
  intro pins s σ H Q I h
  refine wpAny_Call_Name_kw (ld_glob I hg gC ?_ hdb)
  refine PySem.W.callWith_K0 I.kIn kC ?_
  obtain ⟨bm, N, nm, qn, bs, hdct, sn, sub, ab, col, dd, k0, k1, k2, k3, k5, mN, hC, hN, hni, T⟩ := exc_obj I.kIn q
  refine wpAny_call_exc_subT F T hC hN hni (fun h' e hm => ?_) (by show 0 ≤ sizeLine; exact Nat.zero_le _)
  exact mk_of I hm r h (I.hok.gone hm.new)
theorem st_rais (g : Good X G W cf ct lv) {x : Str} {c : Nat} {p cpos pos : Pos} (hx : ct.gl x = some (.exc c)) (hg : glB ct.sc x = true) (hd : (x == ("__debug__" : Str)) = false) : PS X (.Raise (some (.Call (.Name x p) [] [] cpos)) none pos) (tSt G W cf (.rais c)) := by
  have A := g.exc x c hx
  obtain ⟨bmB, B, newId, initId, F, qi⟩ := A.inn
  refine (ps_raise g.calm g.takes (pmk_own0 F qi A.mg A.kp (raises_own A.is.hs A.ty) (glB_ok g.sc hg) hd)).imp fun D σ H q => ?_
  obtain ⟨ι, τ, M, hs, hr, q⟩ := q
  unfold ex at q
  exact q ι H σ _ none Le.refl hr hs ⟨rfl, rfl⟩
/-- what stands ready where an exception is caught -/
abbrev Stk (X : Cx) : Prop := X.stack = X.env :: X.outer ∧ X.env.frame = some X.env.locals
theorem Good.tr (g : Good X G W cf ct lv) {W' : WX} {pn : List (Addr × PySem.Obj)} {xe : Value → Shared → Prop} (tk : Takes (X.tr pn xe) W') : Good (X.tr pn xe) G W' cf ct lv where
  gk := g.gk
  sc := g.sc
  N := g.N
  nd := g.nd
  calm := g.calm
  takes := tk
  room := g.room
  gds := g.gds
  fnc := g.fnc
  fn := fun x i k h => let ⟨q⟩ := g.fn x i k h; ⟨q⟩
  gaf := g.gaf
  fnx := fun x k h => let ⟨q⟩ := g.fnx x k h; ⟨q⟩
  tabs := fun x h => let ⟨k, e, q⟩ := g.tabs x h; ⟨k, e, q.mg, q.dic, q.get, q.has⟩
  con := g.con
  blt := g.blt
  exc := fun x c h => let q := g.exc x c h; ⟨q.mg, q.inn, q.kp, q.is, q.ty, q.no⟩
  rep := g.rep
  exm := g.exm
  exs := g.exs
/-- the clauses, compiled -/
inductive HsOk (X : Cx) (G : Gs) (cf : Cf) : List ExceptHandler → Hs → Prop
  | nil : HsOk X G cf [] .nil
  | cons {x : Str} {c : Nat} {b₀ : Stmt} {suite : List Stmt} {m : Ss} {np pos' : Pos} {hds : List ExceptHandler} {hs : Hs} (hc : Names X x (.ref (G.cls c)))
      (hsu : ∀ (a : Addr) (pn : List (Addr × PySem.Obj)), PSs (X.suite a pn) (b₀ :: suite) (tSs G W0 cf m)) (r : HsOk X G cf hds hs) : HsOk X G cf (.ExceptHandler (some (.Name x np)) none (b₀ :: suite) pos' :: hds) (.cons c m hs)
def hdl (G : Gs) (cf : Cf) : Hs → List (Value × (Addr → Value → Option Addr → TS))
  | .nil => []
  | .cons c m hs => (.ref (G.cls c), fun _ _ _ => tSs G W0 cf m) :: hdl G cf hs
theorem HsOk.ok {hds : List ExceptHandler} {hs : Hs} (h : HsOk X G cf hds hs) : HdsOk X hds (hdl G cf hs) := by
  induction h with
  | nil => exact .nil
  | cons hc hsu r ih => exact .cons hc (fun a oe cls d pn _ _ => hsu a _) ih
theorem hand_ok {D : Ends} {ι ι' : List Addr} {H H' : Hp} {σ' : L2.St} {cls : Value} {d : Option Addr} {x : Exc} {τ1 : St} {M1 : Store} (gk : G.K = X.K) (exm : ∀ c1 c2 : Nat, PySem.W.exmOne X.K (.ref (G.cls c1)) (.ref (G.cls c2)) = some (cf.sub c1 c2))
    (l : Le ι H ι' H') (hr : HR G ι' M1 H') (hs' : SR G ι' H' τ1 σ') (xr : XR G ι' H' x cls d) : ∀ {hs : Hs}, PostO G W ι H D (hand cf hs x τ1 M1) → wMany X.K W D (hdl G cf hs) cls d σ' H'
  | .nil, q => by
    unfold hand at q
    exact q ι' H' σ' cls d l hr hs' xr
  | .cons c m hs, q => by
    unfold hand at q
    refine ⟨cf.sub x.cls c, by rw [xr.1]; exact exm _ _, fun hb a _ => ?_, fun hb => ?_⟩
    · rw [hb, if_pos rfl] at q
      refine ⟨ι', τ1, M1, hs', hr, ?_⟩
      cases h : exs cf m τ1 M1 with
      | nx τ2 M2 => rw [h] at q; exact PostO.mono (W := W0) q l
      | ret v M2 => rw [h] at q; exact PostO.mono (W := W0) q l
      | brk τ2 M2 => rw [h] at q; exact PostO.mono (W := W0) q l
      | cnt τ2 M2 => rw [h] at q; exact PostO.mono (W := W0) q l
      | exc x2 τ2 M2 => rw [h] at q; exact q.elim
      | bad => rw [h] at q; exact q.elim
    · rw [hb] at q
      exact hand_ok gk exm l hr hs' xr q
theorem st_tri (g : Good X G W cf ct lv) (hk : Stk X) {body : List Stmt} {mb : Ss} {h₀ : ExceptHandler} {hds : List ExceptHandler} {mh : Hs} {pos : Pos} (hb : ∀ (W' : WX) (pn : List (Addr × PySem.Obj)) (xe : Value → Shared → Prop), Good (X.tr pn xe) G W' cf ct lv → PassesOwn (model X.prog X.w) X.A X.env xe → PSs (X.tr pn xe) body (tSs G W' cf mb))
    (hh : HsOk X G cf (h₀ :: hds) mh) : PS X (.Try body (h₀ :: hds) [] [] pos) (tSt G W cf (.tri mb mh)) := by
  refine (ps_try_many hk.1 hk.2 g.takes (tb := fun W' => tSs G W' cf mb) (fun W' pn xe tk hp => hb W' pn xe (g.tr tk) hp) hh.ok).imp fun D σ H q => ?_
  obtain ⟨ι, τ, M, hs, hr, q⟩ := q
  refine ⟨ι, τ, M, hs, hr, ?_⟩
  unfold ex at q
  cases h : exs cf mb τ M with
  | exc x τ1 M1 =>
    rw [h] at q
    exact fun ι' H' σ' cls d l hr' hs' xr => hand_ok g.gk g.exm l hr' hs' xr q
  | nx τ1 M1 => rw [h] at q; exact q
  | ret v M1 => rw [h] at q; exact q
  | brk τ1 M1 => rw [h] at q; exact q
  | cnt τ1 M1 => rw [h] at q; exact q
  | bad => rw [h] at q; exact q
/-! ### what an except suite may do -/
theorem k_set (hN : X.N.Nodup) {i : Nat} {x : Str} {e : Expr} {m : E} {p pos : Pos} (hi : X.N[i]? = some x) (hl : Loc X.env.scope x) (hf : X.fn x = true ∨ X.env.scope.names.lookup x = some .local) (he : PE X e (tE G W cf m)) (hn : notLc e = true) : PS X (.Assign [.Name x p] e pos) (tSt G W cf (.set i m)) := by
  refine (ps_set hN hi hl he (notLc_ok hn) hf).imp fun D σ H q => ?_
  obtain ⟨ι, τ, M, hs, hr, q⟩ := q
  unfold ex at q
  refine ⟨ι, τ, M, hs, hr, PostO.on q hs fun v M1 ι1 H1 w _ l1 hr1 r1 q1 => ?_⟩
  exact q1 ι1 H1 _ Le.refl hr1 ((hs.mono l1).set r1 i)
theorem k_cst {e : Expr} {v : Val} {w : V} (h : PE X e (tC w)) (r : ∀ ι H, VR G.K ι H v w) : PE X e (tE G W cf (.cst v)) := by
  refine h.imp fun σ H Q q => ?_
  obtain ⟨ι, τ, M, hs, hr, q⟩ := q
  exact q.here hr (r ι H)
end
end Mi
end MiRunAS

section MiGdS
set_option Elab.async false
set_option linter.all false
set_option maxRecDepth 100000
namespace Mi
open PySem L2
/-! ### from the tree to the small language -/
def gd {α : Type} (b : Bool) (x : Option α) : Option α := if b then x else none
theorem gd_some {α : Type} {b : Bool} {x : Option α} {y : α} (h : gd b x = some y) : b = true ∧ x = some y := by
  unfold gd at h
  split at h
  · exact ⟨by assumption, h⟩
  · cases h
def ixOf (N : List Str) (x : Str) : Option Nat := (N.findIdx? (· == x)).bind fun i => gd (decide (N[i]? = some x)) (some i)
theorem ixOf_ok {N : List Str} {x : Str} {i : Nat} (h : ixOf N x = some i) : N[i]? = some x := by
  obtain ⟨j, _, h⟩ := Option.bind_eq_some_iff.mp h
  obtain ⟨h1, h2⟩ := gd_some h
  cases h2
  exact of_decide_eq_true h1
def nDbg (x : Str) : Bool := !(x == ("__debug__" : Str))
def nCld (x : Str) : Bool := !(x == ("__classdict__" : Str))
def cName (ct : Ct) (x : Str) : Option E := gd (nDbg x) (if visB ct.sc x then gd (nCld x) ((ixOf ct.N x).map .var) else gd (glB ct.sc x) (match ct.gl x with
  | some (.con v) => some (.cst v)
  | some (.fn _ _) => some (.cst (.fn x))
  | _ => none))
def cCon : Const → Option E
  | .none => some (.cst .non)
  | .bool b => some (.cst (.bl b))
  | .int i => some (.cst (.int i))
  | .str s => gd (decide (s.cps.toList.length ≤ LIM) && s.cps.toList.all fun c => decide (c < 128)) (some (.cst (.str s.cps.toList)))
  | _ => none
def opOf : Operator → Option Op2
  | .Add => some .add | .Sub => some .sub | .Mult => some .mul | .FloorDiv => some .fdiv | .Mod => some .mod | .Pow => some .pow
  | _ => none
theorem opOf_ok {o : Operator} {m : Op2} (h : opOf o = some m) : o = opr m := by cases o <;> cases h <;> rfl
def coOf : CmpOp → Cmp
  | .Eq => .eq | .NotEq => .ne | .Lt => .lt | .LtE => .le | .Gt => .gt | .GtE => .ge | .Is => .isN | .IsNot => .isNotN | .In => .inn | .NotIn => .notIn
theorem coOf_ok (o : CmpOp) : o = cop (coOf o) := by cases o <;> rfl
def biOf (x : Str) : Option Bi := if x = "len" then some .len else if x = "int" then some .int else if x = "tuple" then some .tuple else if x = "repr" then some .repr else if x = "abs" then some .abs else none
theorem biOf_ok {x : Str} {b : Bi} (h : biOf x = some b) : x = bivn b := by
  unfold biOf at h
  split at h
  · cases h; assumption
  · split at h
    · cases h; assumption
    · split at h
      · cases h; assumption
      · split at h
        · cases h; assumption
        · split at h
          · cases h; assumption
          · cases h
def bilOf (x : Str) : Option Bil := if x = "all" then some .all else if x = "any" then some .any else if x = "sum" then some .sum else if x = "tuple" then some .tuple else none
theorem bilOf_ok {x : Str} {b : Bil} (h : bilOf x = some b) : x = bilvn b := by
  unfold bilOf at h
  split at h
  · cases h; assumption
  · split at h
    · cases h; assumption
    · split at h
      · cases h; assumption
      · split at h
        · cases h; assumption
        · cases h
def mtOf (x : Str) : Option Mt := if x = "isascii" then some .isascii else if x = "isprintable" then some .isprintable else if x = "upper" then some .upper else none
theorem mtOf_ok {x : Str} {b : Mt} (h : mtOf x = some b) : x = mtN b := by
  unfold mtOf at h
  split at h
  · cases h; assumption
  · split at h
    · cases h; assumption
    · split at h
      · cases h; assumption
      · cases h
def clOf (x : Str) : Option Cl := if x = "int" then some .int else if x = "bool" then some .bool else if x = "str" then some .str else if x = "tuple" then some .tuple else if x = "list" then some .list else if x = "dict" then some .dict else none
theorem clOf_ok {x : Str} {b : Cl} (h : clOf x = some b) : x = clName b ∧ ∀ k, b ≠ .own k := by
  unfold clOf at h
  split at h
  · cases h; exact ⟨by assumption, fun _ z => by cases z⟩
  · split at h
    · cases h; exact ⟨by assumption, fun _ z => by cases z⟩
    · split at h
      · cases h; exact ⟨by assumption, fun _ z => by cases z⟩
      · split at h
        · cases h; exact ⟨by assumption, fun _ z => by cases z⟩
        · split at h
          · cases h; exact ⟨by assumption, fun _ z => by cases z⟩
          · split at h
            · cases h; exact ⟨by assumption, fun _ z => by cases z⟩
            · cases h
def inOf : CmpOp → Option Bool
  | .In => some false
  | .NotIn => some true
  | _ => none
theorem inOf_ok {o : CmpOp} {b : Bool} (h : inOf o = some b) : o = if b then .NotIn else .In := by
  cases o <;> first | (cases h; rfl) | cases h
def bnOf (x : Str) : Option Bn := if x = "min" then some .min else if x = "max" then some .max else none
theorem bnOf_ok {x : Str} {b : Bn} (h : bnOf x = some b) : x = binN b := by
  unfold bnOf at h
  split at h
  · cases h; assumption
  · split at h
    · cases h; assumption
    · cases h
def mdOf (x : Str) : Option Md := if x = "pop" then some .pop else if x = "append" then some .append else if x = "insert" then some .insert else none
theorem mdOf_ok {x : Str} {b : Md} (h : mdOf x = some b) : x = mdN b := by
  unfold mdOf at h
  split at h
  · cases h; assumption
  · split at h
    · cases h; assumption
    · split at h
      · cases h; assumption
      · cases h
/-- a built-in name -/
def bltB (ct : Ct) (x : Str) : Bool := glB ct.sc x && (match ct.gl x with
  | some .blt => true
  | _ => false)
theorem bltB_ok {ct : Ct} {x : Str} (h : bltB ct x = true) : glB ct.sc x = true ∧ ct.gl x = some .blt := by
  unfold bltB at h
  rw [Bool.and_eq_true] at h
  refine ⟨h.1, ?_⟩
  have h2 := h.2
  split at h2
  · assumption
  · cases h2
theorem and2 {a b : Bool} (h : (a && b) = true) : a = true ∧ b = true := by rwa [Bool.and_eq_true] at h
def isTab : Option GI → Bool
  | some .tab => true
  | _ => false
/-- a table of the module, by its name -/
def tabName (ct : Ct) : Expr → Option Str
  | .Name x _ => gd (nDbg x && glB ct.sc x && isTab (ct.gl x)) (some x)
  | _ => none
theorem tabName_ok {ct : Ct} {e : Expr} {x : Str} (h : tabName ct e = some x) : ∃ p, e = .Name x p ∧ nDbg x = true ∧ glB ct.sc x = true ∧ ct.gl x = some .tab := by
  unfold tabName at h
  split at h
  · obtain ⟨h1, h2⟩ := gd_some h
    cases h2
    obtain ⟨h1, h3⟩ := and2 h1
    obtain ⟨h1, h2⟩ := and2 h1
    refine ⟨_, rfl, h1, h2, ?_⟩
    unfold isTab at h3
    split at h3
    · assumption
    · cases h3
  · cases h
def isTupE : Expr → Bool
  | .Tuple _ _ _ => true
  | _ => false
end Mi
end MiGdS

section MiRunBS
set_option Elab.async false
set_option linter.all false
set_option maxRecDepth 100000
namespace Mi
open PySem L2
section
variable {X : Cx} {G : Gs} {W : WX} {cf : Cf} {ct : Ct} {lv : Nat}
/-! ### defs as values -/
theorem e_fnv (g : Good X G W cf ct lv) {x : Str} {i k : Nat} {pos : Pos} (hx : ct.gl x = some (.fn i k)) (hg : glB ct.sc x = true) (hd : (x == ("__debug__" : Str)) = false) : PE X (.Name x pos) (tE G W cf (.cst (.fn x))) := by
  refine e_cst g (pe_glob (glB_ok g.sc hg) (g.gaf x i k hx) (v := .ref (He.ga X.K x)) rfl hd) fun ι H => ?_
  have := VR.fn (K := G.K) (ι := ι) (H := H) x
  rw [g.gk] at this ⊢
  exact this
/-- the i-th slot holds a def -/
def tCallV (G : Gs) (W : WX) (cf : Cf) (K : PySem.W.Frag) (i : Nat) (t : TA) : TE := fun σ H Q => ∃ y g, σ[i]? = some (some (.ref (He.ga K y))) ∧ cf.eqx.fno y = some g ∧ t σ H fun vs H1 => ∃ ι M xs, VRs G.K ι H1 xs vs ∧ HR G ι M H1 ∧ PostC G ι H1 Q (WE W σ) (cf.call g xs M)
theorem e_callv (g : Good X G W cf ct lv) {x : Str} {i : Nat} {e : Expr} {es : List Expr} {ms : Es} {p pos : Pos} (hN : ct.N[i]? = some x) (hv : visB ct.sc x = true) (h1 : (x == ("__debug__" : Str)) = false) (h2 : (x == ("__classdict__" : Str)) = false)
    (ha : PA X (e :: es) (tEs G W cf ms)) (hst : (e :: es).all notStar = true) : PE X (.Call (.Name x p) (e :: es) [] pos) (tE G W cf (.callv i ms)) := by
  have h' : notStar e = true ∧ es.all notStar = true := by simpa using hst
  have key : PE X (.Call (.Name x p) (e :: es) [] pos) (tCallV G W cf X.K i (tEs G W cf ms)) := by
    refine ⟨fun pins s σ H Q I h => ?_⟩
    obtain ⟨y, gi, hs, hy, ht⟩ := h
    obtain ⟨k, fd, ps, kp, bn, F, hbad⟩ := (g.fnx y gi hy).ex
    refine wpAny_Call_Name_kw (thn ((pe_var (pos := p) (i := i) (by rw [g.N]; exact hN) (by rw [g.sc]; exact visB_ok hv) h1 h2).run pins s σ H (fun v H1 => v = .ref (He.ga X.K y) ∧ H1 = H) I ⟨_, hs, rfl, rfl⟩) fun u s1 ⟨v, H1, I1, r1, q1⟩ => ?_)
    obtain ⟨rfl, rfl⟩ := q1
    cases r1
    refine PySem.W.callWith_K (h₀ := X.base) I.ok.mod.kin kp (thn (ha.run pos pins s1 σ _ _ I1 ht) fun us s2 ⟨vs, H2, I2, r, q⟩ => ⟨I2.kIn, ?_⟩) (star_ok h'.1) (stars_ok h'.2)
    obtain ⟨ι, M, xs, rx, hr, q⟩ := q
    have hl : xs.length = k := Classical.byContradiction fun z => by rw [hbad xs M z] at q; exact q.elim
    exact goG F g.gds g.room bn (passAt g.takes σ) I2 r ⟨ι, M, xs, hl, rx, hr, q⟩
  refine key.imp fun σ H Q q => ?_
  obtain ⟨ι, τ, M, hs, hr, q⟩ := q
  unfold ev at q
  split at q
  · rename_i y ey
    obtain ⟨w, e2, r⟩ := hs.at_ i _ ey
    cases r
    split at q
    · rename_i gi hf
      refine ⟨y, gi, by rw [← g.gk]; exact e2, hf, ι, τ, M, hs, hr, q.bind fun xs M1 ι1 H1 vs _ l1 hr1 r1 q1 => ?_⟩
      exact ⟨ι1, M1, xs, r1, hr1, postC_of q1⟩
    · exact q.elim
  · exact q.elim
/-! ### tables of the module -/
theorem e_tget (g : Good X G W cf ct lv) {x : Str} {b : Expr} {mb : E} {px pos : Pos} (hx : ct.gl x = some .tab) (hg : glB ct.sc x = true) (hd : (x == ("__debug__" : Str)) = false) (hb : PE X b (tE G W cf mb)) (hn : notSlice b = true) : PE X (.Subscript (.Name x px) b pos) (tE G W cf (.tget x mb)) := by
  obtain ⟨kvs, ek, T⟩ := g.tabs x hx
  refine (pe_ix (ix_kdict (X := X)) (pe_glob (v := .ref (He.ga X.K x)) (glB_ok g.sc hg) T.mg rfl hd) hb (notSlice_ok hn)).imp fun σ H Q q => ?_
  obtain ⟨ι, τ, M, hs, hr, q⟩ := q
  unfold ev at q
  refine ⟨ι, τ, M, hs, hr, q.bind fun y M1 ι1 H1 v _ l1 hr1 r1 q1 => ?_⟩
  obtain ⟨z, e, q2⟩ := q1.opt
  unfold tabGet at e
  split at e
  · rename_i s _
    rw [ek] at e
    obtain ⟨u, w, n1, rw1, vr⟩ := T.get s z e
    obtain ⟨es, n, D⟩ := T.dic
    cases r1
    exact ⟨_, _, w, rfl, rfl, ⟨es, n, u, D.at_, D.lit, n1, rw1⟩, q2.here hr1 (by show VR G.K _ _ _ _; rw [g.gk]; exact vr _ _)⟩
  · cases e
def tinCmp (ng : Bool) : CmpOp := if ng then .NotIn else .In
theorem tin_run (g : Good X G W cf ct lv) {x : Str} (hx : ct.gl x = some .tab) (ng : Bool) : OpR X (compareOp (tinCmp ng)) (fun a b H Q => ∃ s k, a = .str (toS s) ∧ b = .ref (He.ga X.K x) ∧ tabIn cf.eqx x (.str s) = some k ∧ Q (.bl (if ng then !k else k)) H) := by
  obtain ⟨kvs, ek, T⟩ := g.tabs x hx
  obtain ⟨es, n, D⟩ := T.dic
  rintro ps s σ H a b v u Q I ra rb ⟨z, k, rfl, rfl, e, q⟩
  obtain ⟨r, n1, n2⟩ := T.has z
  have ek2 : k = r.isSome := by
    unfold tabIn at e
    simp only [ek, Option.map_some, Option.some.injEq] at e
    rw [n2, ← e]
  subst ek2
  cases ng with
  | true => exact op_notIn_kd D ps s σ H _ _ v u Q I ra rb ⟨_, r, rfl, rfl, n1, q⟩
  | false => exact op_in_kd D ps s σ H _ _ v u Q I ra rb ⟨_, r, rfl, rfl, n1, q⟩
theorem tin_read (g : Good X G W cf ct lv) {x : Str} {ma : E} {ng : Bool} {σ : L2.St} {H : Hp} {Q : VK} (q : tE G W cf (.tin ng ma x) σ H Q) : tOp (fun a b H Q => ∃ s k, a = .str (toS s) ∧ b = .ref (He.ga X.K x) ∧ tabIn cf.eqx x (.str s) = some k ∧ Q (.bl (if ng then !k else k)) H) (tE G W cf ma) (tC (.ref (He.ga X.K x))) σ H Q := by
  obtain ⟨ι, τ, M, hs, hr, q⟩ := q
  unfold ev at q
  refine ⟨ι, τ, M, hs, hr, q.bind fun y M1 ι1 H1 v _ l1 hr1 r1 q1 => ?_⟩
  obtain ⟨z, e, q2⟩ := q1.opt
  obtain ⟨k, e2, rfl⟩ := Option.map_eq_some_iff.mp e
  have hy : ∃ s, y = .str s := by
    unfold tabIn at e2
    split at e2
    · exact ⟨_, rfl⟩
    · cases e2
  obtain ⟨s, rfl⟩ := hy
  cases r1
  exact ⟨s, k, rfl, rfl, e2, q2.here hr1 (.bl _)⟩
theorem e_tin (g : Good X G W cf ct lv) {x : Str} {a : Expr} {ma : E} {ng : Bool} {px pos : Pos} (hx : ct.gl x = some .tab) (hg : glB ct.sc x = true) (hd : (x == ("__debug__" : Str)) = false) (ha : PE X a (tE G W cf ma)) : PE X (.Compare a [tinCmp ng] [.Name x px] pos) (tE G W cf (.tin ng ma x)) := by
  obtain ⟨kvs, ek, T⟩ := g.tabs x hx
  exact (pe_cmpR (tin_run g hx ng) ha (pe_glob (v := .ref (He.ga X.K x)) (glB_ok g.sc hg) T.mg rfl hd) (notSet_ok rfl)).imp fun σ H Q q => tin_read g q
theorem t_tin (g : Good X G W cf ct lv) {x : Str} {a : Expr} {ma : E} {ng : Bool} {px pos : Pos} (hx : ct.gl x = some .tab) (hg : glB ct.sc x = true) (hd : (x == ("__debug__" : Str)) = false) (ha : PE X a (tE G W cf ma)) : PT X (.Compare a [tinCmp ng] [.Name x px] pos) (tT G W cf (.tin ng ma x)) := by
  obtain ⟨kvs, ek, T⟩ := g.tabs x hx
  refine (pt_cmpR (tin_run g hx ng) ha (pe_glob (v := .ref (He.ga X.K x)) (glB_ok g.sc hg) T.mg rfl hd) (notSet_ok rfl)).imp fun σ H Q q => ?_
  refine tin_read g (Q := fun x H' => ∃ k, x = .bl k ∧ Q k H') (test_read (fun τ M y M1 e => ?_) q)
  unfold ev at e
  cases h : ev cf ma τ M with
  | ok z M2 =>
    rw [h] at e
    simp only [Res.bind_ok] at e
    cases h2 : tabIn cf.eqx x z with
    | none => rw [h2] at e; cases e
    | some k => rw [h2] at e; cases e; exact ⟨_, rfl⟩
  | exc x2 M2 => rw [h] at e; cases e
  | bad => rw [h] at e; cases e
/-! ### isinstance of one of several built-in classes -/
def clsAt (ct : Ct) : List Expr → Option (List Cl)
  | [] => some []
  | .Name x _ :: es => gd (bltB ct x && nDbg x) ((clOf x).bind fun c => (clsAt ct es).map (c :: ·))
  | _ :: _ => none
def tCl (G : Gs) (cs : List Cl) : TA := fun _ H Q => Q (cs.map (clv G)) H
theorem cls_ok (g : Good X G W cf ct lv) : ∀ {es : List Expr} {cs : List Cl}, clsAt ct es = some cs → PA X es (tCl G cs) ∧ ∀ c ∈ cs, ∀ k, c ≠ .own k
  | [], cs, h => by cases h; exact ⟨pa_nil, fun c hc => nomatch hc⟩
  | e :: es, cs, h => by
    unfold clsAt at h
    split at h
    · rename_i heq; cases heq
    · rename_i x p es2 heq
      cases heq
      obtain ⟨h0, h⟩ := gd_some h
      obtain ⟨hb, hd⟩ := and2 h0
      obtain ⟨c, hc, h⟩ := Option.bind_eq_some_iff.mp h
      obtain ⟨cs2, h2, rfl⟩ := Option.map_eq_some_iff.mp h
      obtain ⟨ih1, ih2⟩ := cls_ok g h2
      obtain ⟨ex, hno⟩ := clOf_ok hc
      subst ex
      obtain ⟨hb1, hb2⟩ := bltB_ok hb
      obtain ⟨k1, k2, k3⟩ := clBoot hno
      have hcv := (tyn_mem (G := G) hno).2
      have hT : PE X (.Name (clName c) p) (tC (clv G c)) := by
        rw [hcv]
        exact pe_bltn (glB_ok g.sc hb1) (g.blt _ hb2) k1 rfl k2 k3
      refine ⟨(pa_cons hT ih1 (star_ok rfl)).imp fun σ H Q q => q, fun d hd2 => ?_⟩
      rcases List.mem_cons.mp hd2 with rfl | hd2
      · exact hno
      · exact ih2 d hd2
    · cases h
theorem vkind_ok {M : Store} {v : Val} {c : Cl} {k : Bool} (hno : ∀ m, c ≠ .own m) (hx : noExv M v = true) (e : isOf c v M = some k) : vkind M v ∈ kinds ∧ k = (vkind M v == tyn c || (vkind M v == "bool" && tyn c == "int")) := by
  cases v with
  | ref n =>
    simp only [isOf, vkind] at e ⊢
    cases em : M[n]? with
    | none => rw [em] at e; cases c <;> simp at e
    | some o =>
      rw [em] at e
      cases o with
      | lst xs => cases c <;> simp_all [kinds, tyn, okind]
      | dic xs => cases c <;> simp_all [kinds, tyn, okind]
      | dit xs => cases c <;> simp_all [kinds, tyn, okind]
      | exv m => simp [noExv, em] at hx
  | _ => cases c <;> simp_all [isOf, vkind, kinds, tyn]
theorem any_ok {M : Store} {v : Val} (hx : noExv M v = true) : ∀ {cs : List Cl} {k : Bool}, (∀ c ∈ cs, ∀ m, c ≠ .own m) → anyOf cs v M = some k → PySem.W.kitAny X.K (.type (vkind M v)) (cs.map fun c => .type (tyn c)) = some k ∧ (cs ≠ [] → vkind M v ∈ kinds)
  | [], k, _, e => by cases e; exact ⟨rfl, fun z => absurd rfl z⟩
  | c :: cs, k, hno, e => by
    unfold anyOf at e
    have hc := hno c List.mem_cons_self
    have hm := (tyn_mem (G := ⟨X.K, fun _ => 0⟩) hc).1
    have one : ∀ b, isOf c v M = some b → PySem.W.kitOne X.K (.type (vkind M v)) (.type (tyn c)) = some b ∧ vkind M v ∈ kinds := fun b hb => by
      obtain ⟨h1, h2⟩ := vkind_ok hc hx hb
      refine ⟨?_, h1⟩
      rw [h2]
      exact kit_ty (kits _ h1 _ hm)
    rw [List.map_cons]
    unfold PySem.W.kitAny
    split at e
    · rename_i hb
      cases e
      rw [(one _ hb).1]
      exact ⟨rfl, fun _ => (one _ hb).2⟩
    · rename_i hb
      rw [(one _ hb).1]
      exact ⟨(any_ok hx (fun d hd => hno d (List.mem_cons_of_mem _ hd)) e).1, fun _ => (one _ hb).2⟩
    · cases e
theorem clsV_ok (G : Gs) : ∀ {cs : List Cl}, (∀ c ∈ cs, ∀ m, c ≠ .own m) → Paired ClsV (cs.map (clv G)) (cs.map fun c => Value.type (tyn c))
  | [], _ => .nil
  | c :: cs, h => by
    refine .cons ?_ (clsV_ok G fun d hd => h d (List.mem_cons_of_mem _ hd))
    rw [(tyn_mem (G := G) (h c List.mem_cons_self)).2]
    exact .ty _
theorem e_isis (g : Good X G W cf ct lv) {a : Expr} {es : List Expr} {ma : E} {cs : List Cl} {kt : Nat} {p pt pos : Pos} (ha : PE X a (tE G W cf ma)) (hn : notStar a = true) (hcs : clsAt ct es = some cs) (hg : glB ct.sc "isinstance" = true) (hb : ct.gl "isinstance" = some .blt) :
    PE X (.Call (.Name "isinstance" p) [a, .Tuple es kt pt] [] pos) (tE G W cf (.isis ma cs)) := by
  obtain ⟨hA, hno⟩ := cls_ok g hcs
  refine (pe_callB (call_isiT (X := X)) (glB_ok g.sc hg) (g.blt _ hb) PyProof.Rows.boot_isinstance (pa_cons ha (pa_cons (pe_tup hA) pa_nil (star_ok rfl)) (star_ok hn)) (by decide) (by decide) (star_ok hn) (stars_ok (es := [.Tuple es kt pt]) rfl)).imp fun σ H Q q => ?_
  obtain ⟨ι, τ, M, hs, hr, q⟩ := q
  unfold ev at q
  refine ⟨ι, τ, M, hs, hr, q.bind fun x M1 ι1 H1 v _ l1 hr1 r1 q1 => ?_⟩
  obtain ⟨z, e, q2⟩ := q1.opt
  obtain ⟨k, e2, rfl⟩ := Option.map_eq_some_iff.mp e
  unfold isOfs at e2
  split at e2
  · rename_i c
    obtain ⟨c, c3⟩ := and2 c
    obtain ⟨c1, c2⟩ := and2 c
    have hne : cs ≠ [] := fun z => by rw [z] at c2; cases c2
    obtain ⟨k1, k2⟩ := any_ok (X := X) c1 hno e2
    have hk : vkind M1 x ≠ "" := fun z => by
      have := k2 hne
      rw [z] at this
      simp [kinds] at this
    refine ⟨by rw [List.length_map, ← lim_eq, lim_val]; have := of_decide_eq_true c3; omega, fun tp htp => ?_⟩
    have l2 : Le ι1 H1 ι1 (upd H1 tp (.tup (cs.map (clv G)))) := Le.new htp
    refine ⟨v, tp, _, .type (vkind M1 x), _, k, rfl, upd_same, clsV_ok G hno, ?_, k1, q2 ι1 _ _ l2 (hr1.new htp) (.bl k)⟩
    rw [← g.gk]
    exact ty_of (hr1.new htp) (r1.mono l2) hk
  · cases e2
/-! ### ranges from a place on -/
theorem rngOk_ok {i j : Int} (h : rngOk i j = true) : (-(2 ^ 62) ≤ i ∧ i < 2 ^ 62 ∧ -(2 ^ 62) ≤ j ∧ j < 2 ^ 62) ∧ (j - i).toNat ≤ 2 ^ 24 := by
  unfold rngOk at h
  simp only [Bool.and_eq_true, decide_eq_true_eq] at h
  omega
theorem wk_rng2 {ι : List Addr} {H : Hp} (i j : Int) : Wk G ι H (rngV i j) [] (Itr i (j - i).toNat) where
  go := fun ι' H' M' l hr _ k hk => by
    show k < (j - i).toNat
    simpa [rngV] using hk
  stop := fun ι' H' M' l hr _ => by
    show (j - i).toNat ≤ _
    simp [rngV]
  yld := fun ι' H' M' l hr _ k x H2 hk y => by
    obtain ⟨e1, rfl⟩ := y
    have hk2 : k < (j - i).toNat := by simpa [rngV] using hk
    rw [e1]
    exact ⟨Le.refl, hr, .int (i + (k : Nat)), by simp [rngV, hk2], .int _⟩
theorem s_rng2 (g : Good X G W cf ct lv) {tg a b : Expr} {ma mb : E} {p pos : Pos} (ha : PE X a (tE G W cf ma)) (hb : PE X b (tE G W cf mb)) (hna : notStar a = true) (hnb : notStar b = true) (hg : glB ct.sc "range" = true) (hbt : ct.gl "range" = some .blt) :
    PI X tg (.Call (.Name "range" p) [a, b] [] pos) (tS G W cf (.rng2 ma mb)) := by
  have sb : starEach [b] X.env = [(false, eval b X.env)] := star_ok hnb
  have sa : starEach [a, b] X.env = [(false, eval a X.env), (false, eval b X.env)] := by rw [star_ok hna, sb]
  refine (pi_range2 (glB_ok g.sc hg) (g.blt _ hbt) (pa_cons ha (pa_cons hb pa_nil (star_ok hnb)) (star_ok hna)) sa sb).imp fun σ H R q => ?_
  obtain ⟨ι, τ, M, hs, hr, q⟩ := q
  unfold evS at q
  refine ⟨ι, τ, M, hs, hr, PostS.of q fun x M1 ι1 H1 v _ l1 hr1 r1 q1 => ?_⟩
  refine ⟨ι1, τ, M1, hs.mono l1, hr1, PostS.of q1 fun y M2 ι2 H2 w _ l2 hr2 r2 q2 => ?_⟩
  have r1' := r1.mono l2
  cases r1' with
  | int i => cases r2 with
    | int j =>
      simp only at q2
      split at q2
      · rename_i c
        exact ⟨i, j, rfl, (rngOk_ok c).1, q2 ι2 H2 _ Le.refl hr2 (wk_rng2 i j)⟩
      · exact q2.elim
    | _ => exact q2.elim
  | _ => exact q2.elim
theorem rngV_rel {K : PySem.W.Frag} {ι : List Addr} {H : Hp} (i j : Int) : VRs K ι H (rngV i j) (rgV i j) := by
  unfold rngV rgV
  generalize (List.range (j - i).toNat) = l
  induction l with
  | nil => exact .nil
  | cons n l ih => exact .cons (.int _) ih
theorem l_rng2 (g : Good X G W cf ct lv) {a b : Expr} {ma mb : E} {p p2 pos pos2 : Pos} (ha : PE X a (tE G W cf ma)) (hb : PE X b (tE G W cf mb)) (hna : notStar a = true) (hnb : notStar b = true) (hg : glB ct.sc "range" = true) (hbt : ct.gl "range" = some .blt) (hg2 : glB ct.sc "list" = true) (hbt2 : ct.gl "list" = some .blt) :
    PE X (.Call (.Name "list" p) [.Call (.Name "range" p2) [a, b] [] pos2] [] pos) (tL G W cf (.rng2 ma mb)) := by
  refine (pe_listRg g.calm (glB_ok g.sc hg2) (g.blt _ hbt2) (prg_2 (glB_ok g.sc hg) (g.blt _ hbt) ha hb (star_ok hna) (star_ok hnb) (stars_ok (es := [b]) (by simp [hnb]))) (star_ok rfl)).imp fun σ H Q q => ?_
  obtain ⟨ι, τ, M, hs, hr, q⟩ := q
  unfold evL at q
  refine ⟨ι, τ, M, hs, hr, Post.bindL q fun x M1 ι1 H1 v _ l1 hr1 r1 q1 => ?_⟩
  refine ⟨ι1, τ, M1, hs.mono l1, hr1, Post.bindL q1 fun y M2 ι2 H2 w _ l2 hr2 r2 q2 => ?_⟩
  have r1' := r1.mono l2
  cases r1' with
  | int i => cases r2 with
    | int j =>
      simp only at q2
      split at q2
      · rename_i c
        obtain ⟨⟨c1, c2, c3, c4⟩, c5⟩ := rngOk_ok c
        exact ⟨i, j, rfl, rfl, ⟨c1, c2, c3, c4, c5⟩, fun p hp => q2.make hr2 (rngV_rel i j) hp⟩
      · exact q2.elim
    | _ => exact q2.elim
  | _ => exact q2.elim
/-! ### pairs of two rows -/
theorem zip_len : ∀ xs ys : List Val, (zipV xs ys).length = min xs.length ys.length
  | [], ys => by cases ys <;> simp [zipV]
  | x :: xs, [] => by simp [zipV]
  | x :: xs, y :: ys => by simp only [zipV, List.length_cons, zip_len xs ys]; omega
theorem zip_get : ∀ {xs ys : List Val} {i : Nat} {x y : Val}, xs[i]? = some x → ys[i]? = some y → (zipV xs ys)[i]? = some (.tup [x, y])
  | [], _, i, _, _, h, _ => by simp at h
  | _ :: _, [], i, _, _, _, h => by simp at h
  | a :: xs, b :: ys, 0, x, y, h, k => by simp at h k; subst h; subst k; rfl
  | a :: xs, b :: ys, i + 1, x, y, h, k => by
    simp only [zipV, List.getElem?_cons_succ] at h k ⊢
    exact zip_get h k
theorem zip_at {xs ys : List Val} {i : Nat} (h : i < (zipV xs ys).length) : ∃ x y, xs[i]? = some x ∧ ys[i]? = some y ∧ (zipV xs ys)[i]? = some (.tup [x, y]) := by
  rw [zip_len] at h
  have h1 : i < xs.length := by omega
  have h2 : i < ys.length := by omega
  exact ⟨xs[i], ys[i], List.getElem?_eq_getElem h1, List.getElem?_eq_getElem h2, zip_get (List.getElem?_eq_getElem h1) (List.getElem?_eq_getElem h2)⟩
/-- a new pair that a walk yields -/
theorem pair_new {ι : List Addr} {H : Hp} {M : Store} {T : Addr} {x y : Val} {v w : V} (hr : HR G ι M H) (hT : H T = none) (rx : VR G.K ι H x v) (ry : VR G.K ι H y w) : Le ι H ι (upd H T (.tup [v, w])) ∧ HR G ι M (upd H T (.tup [v, w])) ∧ VR G.K ι (upd H T (.tup [v, w])) (.tup [x, y]) (.ref T) :=
  ⟨Le.new hT, hr.new hT, vr_tup_new hT (.cons rx (.cons ry .nil))⟩
theorem wk_zipT {ι : List Addr} {H : Hp} {xs ys : List Val} {vs ws : List V} {a b : Addr} (qa : SqT G.K H a vs) (qb : SqT G.K H b ws) (rx : VRs G.K ι H xs vs) (ry : VRs G.K ι H ys ws) : Wk G ι H (zipV xs ys) [] (RZ.ItzT G.K a b) where
  go := fun ι' H' M' l hr s i hi => by
    obtain ⟨x, y, h1, h2, _⟩ := zip_at hi
    obtain ⟨v, e1, _⟩ := rx.get h1
    obtain ⟨w, e2, _⟩ := ry.get h2
    exact ⟨vs, ws, v, w, l.ext.sqT qa, l.ext.sqT qb, e1, e2⟩
  stop := fun ι' H' M' l hr s => by
    refine ⟨vs, ws, l.ext.sqT qa, l.ext.sqT qb, ?_⟩
    rw [zip_len, rx.length, ry.length]; omega
  yld := fun ι' H' M' l hr s i v H2 hi y => by
    obtain ⟨x, z, h1, h2, h3⟩ := zip_at hi
    obtain ⟨p, e1, r1⟩ := (rx.mono l).get h1
    obtain ⟨q, e2, r2⟩ := (ry.mono l).get h2
    obtain ⟨T, p', q', rfl, hT, rfl, f1, f2⟩ := y
    have e3 := f1 vs (l.ext.sqT qa)
    have e4 := f2 ws (l.ext.sqT qb)
    rw [e1] at e3; cases e3
    rw [e2] at e4; cases e4
    obtain ⟨z1, z2, z3⟩ := pair_new hr hT r1 r2
    exact ⟨z1, z2, _, h3, z3⟩
theorem wk_zipL {ι : List Addr} {H : Hp} {m n : Nat} {xs ys : List Val} {a b : Addr} (ha : ι[m]? = some a) (hb : ι[n]? = some b) : Wk G ι H (zipV xs ys) [(m, xs), (n, ys)] (Itz G.K a b) where
  go := fun ι' H' M' l hr s i hi => by
    obtain ⟨x, y, h1, h2, _⟩ := zip_at hi
    obtain ⟨vs, qa, rx⟩ := hr.sq_at s.1 (l.at ha)
    obtain ⟨ws, qb, ry⟩ := hr.sq_at s.2.1 (l.at hb)
    obtain ⟨v, e1, _⟩ := rx.get h1
    obtain ⟨w, e2, _⟩ := ry.get h2
    exact ⟨vs, ws, v, w, qa, qb, e1, e2⟩
  stop := fun ι' H' M' l hr s => by
    obtain ⟨vs, qa, rx⟩ := hr.sq_at s.1 (l.at ha)
    obtain ⟨ws, qb, ry⟩ := hr.sq_at s.2.1 (l.at hb)
    refine ⟨vs, ws, qa, qb, ?_⟩
    rw [zip_len, rx.length, ry.length]; omega
  yld := fun ι' H' M' l hr s i v H2 hi y => by
    obtain ⟨vs, qa, rx⟩ := hr.sq_at s.1 (l.at ha)
    obtain ⟨ws, qb, ry⟩ := hr.sq_at s.2.1 (l.at hb)
    obtain ⟨x, z, h1, h2, h3⟩ := zip_at hi
    obtain ⟨p, e1, r1⟩ := rx.get h1
    obtain ⟨q, e2, r2⟩ := ry.get h2
    obtain ⟨T, p', q', rfl, hT, rfl, f1, f2⟩ := y
    have e3 := f1 vs qa
    have e4 := f2 ws qb
    rw [e1] at e3; cases e3
    rw [e2] at e4; cases e4
    obtain ⟨z1, z2, z3⟩ := pair_new hr hT r1 r2
    exact ⟨z1, z2, _, h3, z3⟩
theorem s_zip (g : Good X G W cf ct lv) {elts : List Expr} {kk : Nat} {tpos : Pos} {a b : Expr} {ma mb : E} {p pos : Pos} (ha : PE X a (tE G W cf ma)) (hb : PE X b (tE G W cf mb)) (hna : notStar a = true) (hnb : notStar b = true) (hg : glB ct.sc "zip" = true) (hbt : ct.gl "zip" = some .blt) :
    PI X (.Tuple elts kk tpos) (.Call (.Name "zip" p) [a, b] [] pos) (tS G W cf (.zip ma mb)) := by
  refine (RZ.pi_zipA (glB_ok g.sc hg) (g.blt _ hbt) (pa_cons ha (pa_cons hb pa_nil (star_ok hnb)) (star_ok hna)) (star_ok hna) (stars_ok (es := [b]) (by simp [hnb]))).imp fun σ H R q => ?_
  obtain ⟨ι, τ, M, hs, hr, q⟩ := q
  unfold evS at q
  refine ⟨ι, τ, M, hs, hr, PostS.of q fun x M1 ι1 H1 v _ l1 hr1 r1 q1 => ?_⟩
  refine ⟨ι1, τ, M1, hs.mono l1, hr1, PostS.of q1 fun y M2 ι2 H2 w _ l2 hr2 r2 q2 => ?_⟩
  have r1' := r1.mono l2
  split at q2
  · cases r1' with
    | tup hT1 rr1 => cases r2 with
      | tup hT2 rr2 =>
        refine ⟨_, _, _, _, rfl, .inr ⟨by rw [← g.gk]; exact hT1, by rw [← g.gk]; exact hT2, ?_⟩⟩
        rw [← g.gk]
        exact q2 ι2 H2 _ Le.refl hr2 (wk_zipT hT1 hT2 rr1 rr2)
  · cases r1' with
    | ref ha1 => cases r2 with
      | ref hb1 =>
        split at q2
        · rename_i e1 e2
          obtain ⟨vs, qa, rx⟩ := hr2.sq_at e1 ha1
          obtain ⟨ws, qb, ry⟩ := hr2.sq_at e2 hb1
          refine ⟨_, _, vs, ws, rfl, .inl ⟨by rw [← g.gk]; exact qa, by rw [← g.gk]; exact qb, ?_⟩⟩
          rw [← g.gk]
          exact q2 ι2 H2 _ Le.refl hr2 (wk_zipL ha1 hb1)
        · exact q2.elim
  · exact q2.elim
/-! ### a, b, c = x, y, z -/
def parB3 (ct : Ct) (x y z : Str) (px py pz : Pos) (a b c : Expr) : Bool :=
  isLocal ct x && isLocal ct y && isLocal ct z && (x != y) && (x != z) && (y != z) && (px.line == py.line) && (px.line == pz.line) && notStar a && notStar b && notStar c && !([a, b, c].all (foldedForSure 8)) && !([a, b, c].all (constantsAlone 8)) && (match ct.sc.kind with | .function => true | _ => false)
theorem parB3_ok (g : Good X G W cf ct lv) {x y z : Str} {px py pz pt p2 : Pos} {kt k2 : Nat} {a b c : Expr} (h : parB3 ct x y z px py pz a b c = true) :
    swappedStores [.Tuple [.Name x px, .Name y py, .Name z pz] kt pt] (.Tuple [a, b, c] k2 p2) X.env = pure (some [x, y, z]) := by
  unfold parB3 at h
  simp only [Bool.and_eq_true] at h
  obtain ⟨⟨⟨⟨⟨⟨⟨⟨⟨⟨⟨⟨⟨h1, h2⟩, h3⟩, h4⟩, h5⟩, h6⟩, h7⟩, h8⟩, h9⟩, h10⟩, h11⟩, h12⟩, h13⟩, h14⟩ := h
  have kx : X.env.kindOf x = some .local := by
    show X.env.scope.names.lookup x = _
    rw [g.sc]; exact isLocal_ok h1
  have ky : X.env.kindOf y = some .local := by
    show X.env.scope.names.lookup y = _
    rw [g.sc]; exact isLocal_ok h2
  have kz : X.env.kindOf z = some .local := by
    show X.env.scope.names.lookup z = _
    rw [g.sc]; exact isLocal_ok h3
  have kk : X.env.blockKind = .function := by
    unfold Env.blockKind
    rw [g.sc]
    split at h14
    · rename_i e; rw [e]; rfl
    · cases h14
  have l1 : py.line = px.line := by
    have : px.line = py.line := by simpa using h7
    exact this.symm
  have l2 : pz.line = px.line := by
    have : px.line = pz.line := by simpa using h8
    exact this.symm
  have n1 : (y == x) = false := by
    have : x ≠ y := by simpa using h4
    rw [beq_eq_false_iff_ne]; exact fun e => this e.symm
  have n2 : (z == x) = false := by
    have : x ≠ z := by simpa using h5
    rw [beq_eq_false_iff_ne]; exact fun e => this e.symm
  have n3 : (z == y) = false := by
    have : y ≠ z := by simpa using h6
    rw [beq_eq_false_iff_ne]; exact fun e => this e.symm
  have hd : [x, y, z].eraseDups = [x, y, z] := by
    rw [List.eraseDups_cons]
    simp [n1, n2, n3, List.eraseDups_cons]
  unfold swappedStores
  dsimp only
  rw [if_neg (by rw [kk]; intro z; cases z)]
  rw [if_neg (by
    intro z
    obtain ⟨e, he, ze⟩ := List.any_eq_true.mp z
    have hn : notStar e = true := by
      rcases List.mem_cons.mp he with rfl | he
      · exact h9
      · rcases List.mem_cons.mp he with rfl | he
        · exact h10
        · rw [List.mem_singleton.mp he]; exact h11
    cases e <;> first | (cases hn; done) | (cases ze; done))]
  simp only [List.filterMap_cons, List.filterMap_nil, kx, ky, kz, l1, l2, Expr.pos, List.head?_cons, Option.map_some, Option.getD_some, beq_self_eq_true, Bool.and_self, if_true, hd]
  rw [if_neg (by intro z; cases z), if_neg (by intro z; rw [z] at h12; cases h12), if_neg (by intro z; rw [z] at h13; cases h13)]
theorem st_par3 (g : Good X G W cf ct lv) {i j k : Nat} {x y z : Str} {a b c : Expr} {ma mb mc : E} {px py pz pt p2 pos : Pos} {kt k2 : Nat} (hi : ct.N[i]? = some x) (hj : ct.N[j]? = some y) (hk : ct.N[k]? = some z) (ha : PE X a (tE G W cf ma)) (hb : PE X b (tE G W cf mb)) (hc : PE X c (tE G W cf mc)) (hp : parB3 ct x y z px py pz a b c = true) :
    PS X (.Assign [.Tuple [.Name x px, .Name y py, .Name z pz] kt pt] (.Tuple [a, b, c] k2 p2) pos) (tSt G W cf (.par3 i j k ma mb mc)) := by
  have hsw := parB3_ok (kt := kt) (pt := pt) (k2 := k2) (p2 := p2) g hp
  unfold parB3 at hp
  simp only [Bool.and_eq_true] at hp
  obtain ⟨⟨⟨⟨⟨⟨⟨⟨⟨⟨⟨⟨⟨h1, h2⟩, h3⟩, h4⟩, h5⟩, h6⟩, h7⟩, h8⟩, h9⟩, h10⟩, h11⟩, h12⟩, h13⟩, h14⟩ := hp
  have ne : ∀ {m n : Nat} {u v : Str}, ct.N[m]? = some u → ct.N[n]? = some v → (u != v) = true → m ≠ n := fun {m n u v} hm hn h e => by
    subst e
    rw [hm] at hn
    have : u = v := Option.some.inj hn
    simp [this] at h
  refine (ps_par3 g.calm g.nd (by rw [g.N]; exact hi) (by rw [g.N]; exact hj) (by rw [g.N]; exact hk) (ne hi hj h4) (ne hi hk h5) (ne hj hk h6) (by rw [g.sc]; exact isLocal_ok h1) (by rw [g.sc]; exact isLocal_ok h2) (by rw [g.sc]; exact isLocal_ok h3) (pa_cons ha (pa_cons hb (pa_cons hc pa_nil (star_ok h11)) (star_ok h10)) (star_ok h9)) hsw rfl).imp fun D σ H q => ?_
  obtain ⟨ι, τ, M, hs, hr, q⟩ := q
  unfold ex at q
  refine ⟨ι, τ, M, hs, hr, PostO.on q hs fun v M1 ι1 H1 w _ l1 hr1 r1 q1 => ?_⟩
  refine ⟨ι1, τ, M1, hs.mono l1, hr1, PostO.on q1 (hs.mono l1) fun v2 M2 ι2 H2 w2 _ l2 hr2 r2 q2 => ?_⟩
  refine ⟨ι2, τ, M2, hs.mono (l1.trans l2), hr2, PostO.on q2 (hs.mono (l1.trans l2)) fun v3 M3 ι3 H3 w3 _ l3 hr3 r3 q3 => ?_⟩
  exact ⟨w, w2, w3, rfl, q3 ι3 H3 _ Le.refl hr3 ((((hs.mono ((l1.trans l2).trans l3)).set (r1.mono (l2.trans l3)) i).set (r2.mono l3) j).set r3 k)⟩
end
end Mi
end MiRunBS

section MiAugS
set_option Elab.async false
set_option linter.all false
set_option maxRecDepth 100000
/-! x += e, x -= e of ints -/
namespace Mi
open PySem L2
def augOf : Operator → Option Bool
  | .Add => some false
  | .Sub => some true
  | _ => none
section
variable {X : Cx} {G : Gs} {W : WX} {cf : Cf} {ct : Ct} {lv : Nat}
theorem st_aug (g : Good X G W cf ct lv) {i : Nat} {x : Str} {e : Expr} {m : E} {p pos : Pos} {op : Operator} {ng : Bool} (hN : ct.N[i]? = some x) (hst : stoB ct x = true) (he : PE X e (tE G W cf m)) (ho : augOf op = some ng) : PS X (.AugAssign (.Name x p) op e pos) (tSt G W cf (.aug i ng m)) := by
  have key : ∀ (D : Ends) (σ : L2.St) (H : Hp), tSt G W cf (.aug i ng m) D σ H → tAug i (tE G W cf m) (ipI fun a b => if ng then a - b else a + b) D σ H := by
    intro D σ H q
    obtain ⟨ι, τ, M, hs, hr, q⟩ := q
    unfold ex at q
    split at q
    · rename_i a e1
      obtain ⟨w, e2, r⟩ := hs.at_ i _ e1
      cases r
      refine ⟨_, e2, ι, τ, M, hs, hr, PostO.on q hs fun v M1 ι1 H1 w _ l1 hr1 r1 q1 => ?_⟩
      split at q1
      · cases r1
        exact ⟨a, _, rfl, rfl, q1 ι1 H1 _ Le.refl hr1 ((hs.mono l1).set (.int _) i)⟩
      · exact q1.elim
    · exact q.elim
  cases op with
  | Add =>
    cases ho
    exact (ps_aug g.nd (by rw [g.N]; exact hN) (g.sto hst).1 he ip_add (g.sto hst).2).imp fun D σ H q => key D σ H q
  | Sub =>
    cases ho
    exact (ps_aug g.nd (by rw [g.N]; exact hN) (g.sto hst).1 he ip_sub (g.sto hst).2).imp fun D σ H q => key D σ H q
  | _ => cases ho
end
end Mi
end MiAugS

section MiReprS
set_option Elab.async false
set_option linter.all false
set_option maxRecDepth 100000
/-! repr of an own exception without arguments -/
namespace Mi
open PySem Builtin Builtin.Str Builtin.BaseException Builtin.Exceptions
open PySem.W (Looks Frag findIn subIn looks_findIn looks_subIn)
section
variable {prog : Program} {w : World} {M : Model} {A : Around} {E : Value → Shared → Prop} {s : Shared} {K : Frag} {C e t0 : Addr}
theorem by_C {last : Value → List Value → Sem Value} {v tp : Value} {name : PySem.Str} {i : String} {Q : Option Value → Shared → Prop} (hT : Looks M s.heap (typeOf v) tp) (hf : Looks M s.heap (typeLookup tp name) (some (.builtin i))) (hb : bindSpecial (.builtin i) v = pure (.builtin i, [v]))
    (hc : wpAny M A (last (.builtin i) [v]) (fun r => Q (some r)) E s) : wpAny M A (callSpecialIfBoundBy? last v name) Q E s := by
  simp only [callSpecialIfBoundBy?, bindSpecialIfBound?]
  refine wpAny_holding (wpAny_bind (wpAny_bind ?_))
  unfold specialOf
  refine wpAny_bind (hT.here (hf.here ?_))
  simp only [hb]
  refine wpAny_bind (wpAny_askSetting (wpAny_ite ?_))
  have fin : wpAny M A (last (.builtin i) [v] >>= fun r => pure (some r)) Q E s := wpAny_bind (wpAny_mono hc (fun _ _ q => wpAny_pure q) fun _ _ q => q)
  split
  · exact wpAny_bind (wpAny_pure (wpAny_pure fin))
  · exact wpAny_tryCatch (wpAny_bind (wpAny_pure (wpAny_pure fin)))
/-- the class's name -/
def nameOf (K : Frag) (C : Addr) (nm : PySem.Str) : Prop := ∃ oc od cd sl, K.lookup C = some ⟨oc, od, .cls cd, sl⟩ ∧ cd.name = nm
def nameB (K : Frag) (C : Addr) (nm : PySem.Str) : Bool := match K.lookup C with
  | some ⟨_, _, .cls cd, _⟩ => decide (cd.name = nm)
  | _ => false
theorem nameB_ok {nm : PySem.Str} (h : nameB K C nm = true) : nameOf K C nm := by
  unfold nameB at h
  split at h
  · rename_i oc od cd sl e
    exact ⟨oc, od, cd, sl, e, of_decide_eq_true h⟩
  · cases h
theorem whole_C {nm : PySem.Str} {Q : String → Shared → Prop} (x : PySem.ExcC K C e t0 s.heap) (hn : nameOf K C nm) (hq : Q nm.toString s) : wpAny M A (typeNameOfWhole (.ref e)) Q E s := by
  obtain ⟨oc, od, cd, sl, lk, rfl⟩ := hn
  unfold typeNameOfWhole shownTypeOf
  refine wpAny_bind (wpAny_bind (x.LT.here ?_))
  have hne : (Value.ref C == Value.type "builtin_function_or_method") = false := rfl
  simp only [hne, Bool.false_eq_true, if_false]
  refine wpAny_pure ?_
  unfold typeNameWhole classData
  refine wpAny_bind (wpAny_bind (wpAny_load (x.1 _ _ lk) ?_))
  exact wpAny_pure (wpAny_pure hq)
def excName (nm : PySem.Str) : PySem.Str := PySem.Str.ofString ((nm.toString.cutAt '.').getLastD "")
theorem excC_keeps {h h' : Heap} (x : PySem.ExcC K C e t0 h) (k : ∀ b o, h.get? b = some o → h'.get? b = some o) : PySem.ExcC K C e t0 h' := by
  obtain ⟨X, o, vs, h1, h2, h3, h4⟩ := x
  exact ⟨PySem.W.Frag.In.keeps X k, o, vs, k _ _ h1, h2, h3, h4⟩
theorem tupAt_keeps {h h' : Heap} {xs : List Value} (x : h.TupAt t0 xs) (k : ∀ b o, h.get? b = some o → h'.get? b = some o) : h'.TupAt t0 xs := by
  obtain ⟨ot, n, h1, h2, h3⟩ := x
  exact ⟨ot, n, k _ _ h1, h2, h3⟩
theorem len_app (a b : PySem.Str) : (a ++ b).length = a.length + b.length := strLen_append a b
theorem tupleText_nil : tupleText [] = PySem.Str.ofString "()" := by decide +kernel
theorem ret_text {y : PySem.Str} {z : Shared} {Q : Value → Shared → Prop} (hz : y.length ≤ sizeLine) (hq : ∀ (tk : Nat) (u : Tok), Q (.str y u) { z with toks := tk }) : wpAny M A (retStr y) (fun f s' => ∃ v, f = .done (.ret v) ∧ Q v s') E z := by
  unfold retStr
  exact wpAny_bind (wpAny_mkStr (wpAny_pure ⟨_, rfl, hq _ _⟩) hz)
theorem body_C {h₀ : Heap} {nm : PySem.Str} {g : List Code} {base : Nat} {Q : Value → Shared → Prop} (x : PySem.ExcC K C e t0 h₀) (ht : h₀.TupAt t0 []) (hn : nameOf K C nm) (hb : base + ((excName nm).length + 2) ≤ sizeLine) (hg : A.guards = some g) (hcl : ∀ b ∈ [t0], Clear g b) (hu : A.units + 2 < cLine)
    (hk0 : ∀ b o, h₀.get? b = some o → s.heap.get? b = some o) (hQ : ∀ h' tk u, (∀ b o, s.heap.get? b = some o → h'.get? b = some o) → Q (.str (excName nm ++ PySem.Str.ofString "()") u) { s with heap := h', toks := tk }) : wpAny (model prog w) A (Builtin.bexcReprAt base ⟨[.ref e], []⟩) (fun f s' => ∃ v, f = .done (.ret v) ∧ Q v s') E s := by
  have xs := excC_keeps x hk0
  have ts := tupAt_keeps ht hk0
  have e2 : (PySem.Str.ofString "()").length = 2 := by rw [ofString_length]; rfl
  have inner : ReprK prog w [t0] h₀ 1 (.ref t0) (tupleText []) := by
    obtain ⟨ot, n, h1, h2, h3⟩ := ht
    exact ReprK.tuple h1 h2 h3 (by simp) .nil
  have hin : ∀ (b : Nat) (z : Shared) (Q2 : PySem.Str → Shared → Prop) (E2 : Value → Shared → Prop), b + 2 ≤ sizeLine → (∀ c o, s.heap.get? c = some o → z.heap.get? c = some o) → (∀ h' tk, (∀ c o, z.heap.get? c = some o → h'.get? c = some o) → Q2 (PySem.Str.ofString "()") { z with heap := h', toks := tk }) →
      wpAny (model prog w) A (pyReprUnder b (.ref t0)) Q2 E2 z := fun b z Q2 E2 h1 h2 h3 => by
    rw [tupleText_nil] at inner
    exact inner b (by rw [e2]; exact h1) A g E2 z Q2 hg hcl (by omega) (fun c o q => h2 c o (hk0 c o q)) h3
  unfold Builtin.bexcReprAt
  refine wpAny_bind ?_
  show wpAny _ _ (pure (Value.ref e, ([] : List Value))) _ _ _
  refine wpAny_pure (wpAny_bind (whole_C xs hn (wpAny_bind (bexcArgs_C xs ts ?_))))
  show wpAny _ _ (do
    let r ← pyReprUnder (base + (excName nm).length) (.ref t0)
    retStr (excName nm ++ r)) _ _ _
  have hle : base + (excName nm).length + 2 ≤ sizeLine := by rw [Nat.add_assoc]; exact hb
  have hsz : (excName nm ++ PySem.Str.ofString "()").length ≤ sizeLine := by rw [len_app, e2]; exact Nat.le_trans (Nat.le_add_left _ base) hb
  refine wpAny_bind (hin (base + (excName nm).length) s _ _ hle (fun _ _ z => z) fun h' tk hk => ?_)
  generalize excName nm ++ PySem.Str.ofString "()" = y at hQ hsz ⊢
  exact ret_text (Q := Q) hsz fun tk2 u => hQ h' tk2 u hk
theorem under_C {h₀ : Heap} {nm : PySem.Str} {g : List Code} {base : Nat} {Q : Value → Shared → Prop} (x : PySem.ExcC K C e t0 h₀) (ht : h₀.TupAt t0 []) (hs : findIn K (.ref C) "__repr__" = some (some (.builtin "BaseException.__repr__"))) (hB : subIn K (.ref C) (.type "BaseException") = some true) (hn : nameOf K C nm)
    (hb : base + ((excName nm).length + 2) ≤ sizeLine) (hg : A.guards = some g) (hcl : ∀ b ∈ [t0], Clear g b) (hu : A.units + 3 < cLine) (hk0 : ∀ b o, h₀.get? b = some o → s.heap.get? b = some o) (hQ : ∀ h' tk u, (∀ b o, s.heap.get? b = some o → h'.get? b = some o) → Q (.str (excName nm ++ PySem.Str.ofString "()") u) { s with heap := h', toks := tk }) :
    wpAny (model prog w) A (PySem.call (.builtin "BaseException.__repr__.under") [.ref e, rawInt base]) Q E s := by
  have xs := excC_keeps x hk0
  refine wpAny_call (codeAny_call_builtin F.plain_bexc_repr_under F.entry_bexc_repr_under ?_)
  rw [F.check_bexc_repr_under]
  refine wpAny_pure ?_
  show wpAny _ _ (reprTwin "BaseException.__repr__" Builtin.bexcReprAt ⟨[.ref e, rawInt base], []⟩) _ _ _
  rw [reprTwin_eq]
  refine wpAny_bind (@PySem.W.check_slot (model prog w) _ _ s "BaseException.__repr__" "BaseException" "__repr__" (.ref e) [] [] _ (by decide +kernel) (by decide +kernel) (xs.LI hB) (F.args_bexc_repr _) ?_)
  refine wpAny_mono (body_C (A := A.in1) x ht hn hb hg hcl (by show A.units + 1 + 2 < cLine; omega) hk0 hQ) (fun f s' ⟨v, e1, q⟩ => ?_) fun _ _ z => z
  subst e1
  exact q
theorem ownK {h₀ : Heap} {nm : PySem.Str} (x : PySem.ExcC K C e t0 h₀) (ht : h₀.TupAt t0 []) (hs : findIn K (.ref C) "__repr__" = some (some (.builtin "BaseException.__repr__"))) (hB : subIn K (.ref C) (.type "BaseException") = some true) (hn : nameOf K C nm) :
    ReprK prog w [t0] h₀ 3 (.ref e) (excName nm ++ PySem.Str.ofString "()") := by
  intro base hb A g E s Q hg hcl hu hk0 hQ
  have xs := excC_keeps x hk0
  have hf : Looks (model prog w) s.heap (typeLookup (.ref C) "__repr__") (some (.builtin "BaseException.__repr__")) := looks_findIn xs.1 hs
  have e2 : (PySem.Str.ofString "()").length = 2 := by rw [ofString_length]; rfl
  have hl : base + ((excName nm).length + 2) ≤ sizeLine := by rw [len_app, e2] at hb; exact hb
  refine wpAny_pyReprUnder_ref (by omega) ?_
  unfold pyReprObjUnder pyReprObjBy
  refine wpAny_bind (wpAny_cRoomFor (by omega) ?_)
  refine wpAny_bind ?_
  unfold specialOf
  refine wpAny_bind (xs.LT.here (hf.here ?_))
  simp only [F.excStr_Exception.repr.bind]
  rw [if_neg (fun z => by cases z)]
  refine wpAny_bind (by_C (name := PySem.Str.ofString "__repr__") xs.LT hf (F.excStr_Exception.repr.bind _) ?_)
  show wpAny _ A (PySem.call (.builtin "BaseException.__repr__.under") [.ref e, rawInt base]) _ _ s
  refine under_C x ht hs hB hn hl hg hcl hu hk0 fun h' tk u hk => ?_
  exact wpAny_bind (wpAny_isInstance (T := "str") (b := true) rfl isSubtype_str_str (wpAny_pure ⟨_, _, rfl, hQ h' tk hk⟩))
end
end Mi
end MiReprS

section MiRepr2S
set_option Elab.async false
set_option linter.all false
set_option maxRecDepth 100000
namespace Mi
open PySem L2
/-! ### what repr gives, by the store -/
def optAll {α : Type} : List (Option α) → Option (List α)
  | [] => some []
  | none :: _ => none
  | some x :: r => (optAll r).map (x :: ·)
def reprS (nm : Nat → PySem.Str) (M : Store) : Nat → Val → Option PySem.Str
  | 0, _ => none
  | n + 1, v => match v with
    | .non => some "None"
    | .bl b => some (if b then "True" else "False")
    | .int i => if i.natAbs.log2 < 1920 then some (toString i : String) else none
    | .str s => if (reprText (toS s)).length ≤ sizeLine then some (reprText (toS s)) else none
    | .tup xs => (optAll (xs.map (reprS nm M n))).map tupleText
    | .frz _ => none
    | .fn _ => none
    | .ref k => match M[k]? with
      | some (.lst xs) => (optAll (xs.map (reprS nm M n))).map listText
      | some (.dic kvs) => (optAll (kvs.map fun p => (reprS nm M n p.1).bind fun a => (reprS nm M n p.2).map fun b => a ++ ": " ++ b)).map dictText
      | some (.exv c) => if 2 ≤ n then some (excName (nm c) ++ PySem.Str.ofString "()") else none
      | _ => none
theorem optAll_mono {α β : Type} {f g : α → Option β} : ∀ {l : List α} {zs : List β}, (∀ x ∈ l, ∀ z, f x = some z → g x = some z) → optAll (l.map f) = some zs → optAll (l.map g) = some zs
  | [], _, _, h => h
  | x :: l, zs, k, h => by
    cases e : f x with
    | none => simp [optAll, e] at h
    | some y =>
      simp only [List.map_cons, e, optAll] at h
      obtain ⟨ys, h1, rfl⟩ := Option.map_eq_some_iff.mp h
      simp only [List.map_cons, k x List.mem_cons_self y e, optAll, optAll_mono (fun a ha => k a (List.mem_cons_of_mem _ ha)) h1]
      rfl
theorem optAll_mem {α β : Type} {f : α → Option β} : ∀ {l : List α} {zs : List β}, optAll (l.map f) = some zs → ∀ x ∈ l, ∃ z, f x = some z
  | [], _, _, x, hx => by cases hx
  | y :: l, zs, h, x, hx => by
    cases e : f y with
    | none => simp [optAll, e] at h
    | some z =>
      simp only [List.map_cons, e, optAll] at h
      obtain ⟨ys, h1, rfl⟩ := Option.map_eq_some_iff.mp h
      rcases List.mem_cons.mp hx with rfl | hx
      · exact ⟨z, e⟩
      · exact optAll_mem h1 x hx
theorem reprS_mono {nm : Nat → PySem.Str} {M : Store} : ∀ {n : Nat} {v : Val} {z : PySem.Str}, reprS nm M n v = some z → reprS nm M (n + 1) v = some z
  | 0, _, _, h => by cases h
  | n + 1, v, z, h => by
    have ih := @reprS_mono nm M n
    unfold reprS at h ⊢
    cases v with
    | non => exact h
    | bl b => exact h
    | int i => exact h
    | str s => exact h
    | frz xs => exact h
    | fn x => exact h
    | tup xs =>
      obtain ⟨zs, h1, rfl⟩ := Option.map_eq_some_iff.mp h
      exact Option.map_eq_some_iff.mpr ⟨zs, optAll_mono (fun x _ y e => ih e) h1, rfl⟩
    | ref k =>
      simp only at h ⊢
      cases em : M[k]? with
      | none => rw [em] at h; exact h
      | some o =>
        rw [em] at h
        cases o with
        | lst xs =>
          obtain ⟨zs, h1, rfl⟩ := Option.map_eq_some_iff.mp h
          exact Option.map_eq_some_iff.mpr ⟨zs, optAll_mono (fun x _ y e => ih e) h1, rfl⟩
        | dic kvs =>
          obtain ⟨zs, h1, rfl⟩ := Option.map_eq_some_iff.mp h
          refine Option.map_eq_some_iff.mpr ⟨zs, optAll_mono (fun p _ y e => ?_) h1, rfl⟩
          obtain ⟨a, ea, e⟩ := Option.bind_eq_some_iff.mp e
          obtain ⟨b, eb, rfl⟩ := Option.map_eq_some_iff.mp e
          exact Option.bind_eq_some_iff.mpr ⟨a, ih ea, Option.map_eq_some_iff.mpr ⟨b, ih eb, rfl⟩⟩
        | dit kvs => cases h
        | exv c =>
          simp only at h ⊢
          split at h
          · rename_i hn
            rw [if_pos (by omega)]
            exact h
          · cases h
theorem reprS_le {nm : Nat → PySem.Str} {M : Store} {n m : Nat} {v : Val} {z : PySem.Str} (h : reprS nm M n v = some z) (l : n ≤ m) : reprS nm M m v = some z := by
  induction l with
  | refl => exact h
  | step _ ih => exact reprS_mono ih
/-! ### one address, one value -/
section
variable {X : Cx} {pins : List (Addr × PySem.Obj)} {σ : L2.St} {H : Hp} {s : Shared} {G : Gs} {ι : List Addr} {M : Store} {nm : Nat → PySem.Str}
theorem heapCls (I : Inv X pins σ H s) (gk : G.K = X.K) {o : Obj} {a : Addr} (h : OR G ι H o a) : ∃ u, s.heap.get? a = some u ∧ u.cls ≠ .type "tuple" := by
  cases o with
  | lst xs =>
    obtain ⟨vs, e, _⟩ := h
    obtain ⟨_, its, n, _, e2⟩ := I.hok a _ e
    exact ⟨_, e2, fun z => by simp at z⟩
  | dic ks =>
    obtain ⟨ws, e, _⟩ := h
    obtain ⟨_, _, _, _, o, _, _, e2, hd, _⟩ := I.hok a _ e
    exact ⟨o, e2, fun z => by have := hd.1; rw [z] at this; simp at this⟩
  | dit ks =>
    obtain ⟨ws, e, _⟩ := h
    obtain ⟨_, _, _, _, o, _, _, e2, hd, _⟩ := I.hok a _ e
    exact ⟨o, e2, fun z => by have := hd.1; rw [z] at this; simp at this⟩
  | exv c =>
    obtain ⟨t, e, _⟩ := h
    obtain ⟨⟨oe, vs, e2, hz, _⟩, _, _⟩ := I.hok a _ e
    exact ⟨oe, e2, fun z => by have := hz.1; rw [z] at this; cases this⟩
end
end Mi
end MiRepr2S

section MiRepr3S
set_option Elab.async false
set_option linter.all false
set_option maxRecDepth 100000
namespace Mi
open PySem L2
theorem VR.str_inv {K : PySem.W.Frag} {ι : List Addr} {H : Hp} {y : Val} {v : V} {z : PySem.Str} (h : VR K ι H y v) (e : v = .str z) : ∃ t, y = .str t ∧ z = toS t := by
  cases h <;> first | (cases e; done) | skip
  rename_i s hs
  exact ⟨s, rfl, (V.str.inj e).symm⟩
section
variable {X : Cx} {pins : List (Addr × PySem.Obj)} {σ : L2.St} {H : Hp} {s : Shared} {G : Gs} {ι : List Addr} {M : Store} {nm : Nat → PySem.Str}
theorem HR.got (hr : HR G ι M H) {k : Nat} {a : Addr} (e : ι[k]? = some a) : ∃ o, M[k]? = some o ∧ OR G ι H o a := by
  have hk : k < ι.length := (List.getElem?_eq_some_iff.mp e).1
  have hm : k < M.length := by rw [← hr.len]; exact hk
  exact ⟨M[k], List.getElem?_eq_getElem hm, hr.obj k _ a (List.getElem?_eq_getElem hm) e⟩
theorem notBoth (I : Inv X pins σ H s) (gk : G.K = X.K) (hr : HR G ι M H) {k : Nat} {a : Addr} {vs : List V} (e : ι[k]? = some a) (q : SqT G.K H a vs) : False := by
  obtain ⟨o, _, ho⟩ := hr.got e
  obtain ⟨u, e2, hc⟩ := heapCls I gk ho
  obtain ⟨its, _, ⟨o3, e3, hc3, _⟩, _⟩ := I.tuple (show SqT X.K H a vs by rw [← gk]; exact q)
  rw [e2] at e3
  cases e3
  exact hc hc3
theorem det_all {n : Nat} (ih : ∀ x y v, (reprS nm M n x).isSome = true → (reprS nm M n y).isSome = true → VR G.K ι H x v → VR G.K ι H y v → x = y) : ∀ {xs ys : List Val} {vs : List V}, (∀ x ∈ xs, (reprS nm M n x).isSome = true) → (∀ x ∈ ys, (reprS nm M n x).isSome = true) → VRs G.K ι H xs vs → VRs G.K ι H ys vs → xs = ys
  | [], ys, vs, _, _, h, k => by cases h; cases k; rfl
  | x :: xs, ys, vs, hx, hy, h, k => by
    cases h with
    | cons h1 h2 => cases k with
      | cons k1 k2 =>
        rw [ih _ _ _ (hx _ List.mem_cons_self) (hy _ List.mem_cons_self) h1 k1, det_all ih (fun a ha => hx a (List.mem_cons_of_mem _ ha)) (fun a ha => hy a (List.mem_cons_of_mem _ ha)) h2 k2]
theorem some_of_tup {n : Nat} {xs : List Val} (h : (reprS nm M (n + 1) (.tup xs)).isSome = true) : ∀ x ∈ xs, (reprS nm M n x).isSome = true := fun x hx => by
  obtain ⟨z, hz⟩ := Option.isSome_iff_exists.mp h
  unfold reprS at hz
  obtain ⟨zs, h1, _⟩ := Option.map_eq_some_iff.mp hz
  obtain ⟨y, hy⟩ := optAll_mem h1 x hx
  rw [hy]; rfl
theorem det (I : Inv X pins σ H s) (gk : G.K = X.K) (hr : HR G ι M H) : ∀ (n : Nat) (x y : Val) (v : V), (reprS nm M n x).isSome = true → (reprS nm M n y).isSome = true → VR G.K ι H x v → VR G.K ι H y v → x = y
  | 0, x, y, v, hx, _, _, _ => by unfold reprS at hx; cases hx
  | n + 1, x, y, v, hx, hy, h, k => by
    cases h with
    | non => cases k; rfl
    | bl b => cases k; rfl
    | int i => cases k; rfl
    | str t ht =>
      obtain ⟨t2, e1, e2⟩ := k.str_inv rfl
      rw [e1, toS_inj e2]
    | frz q r => unfold reprS at hx; cases hx
    | fn x => unfold reprS at hx; cases hx
    | tup q r =>
      cases k with
      | fn x => unfold reprS at hy; cases hy
      | frz q2 r2 => unfold reprS at hy; cases hy
      | ref e => exact (notBoth I gk hr e q).elim
      | tup q2 r2 =>
        have e := I.tuple_inj (show SqT X.K H _ _ by rw [← gk]; exact q) (show SqT X.K H _ _ by rw [← gk]; exact q2)
        subst e
        rw [det_all (det I gk hr n) (some_of_tup hx) (some_of_tup hy) r r2]
    | ref e =>
      cases k with
      | fn x => unfold reprS at hy; cases hy
      | frz q2 r2 => unfold reprS at hy; cases hy
      | tup q2 r2 => exact (notBoth I gk hr e q2).elim
      | ref e2 =>
        obtain ⟨h1, h2⟩ := List.getElem?_eq_some_iff.mp e
        obtain ⟨h3, h4⟩ := List.getElem?_eq_some_iff.mp e2
        rw [(List.getElem_inj hr.inj).mp (h2.trans h4.symm)]
/-- what is known of the exceptions' classes -/
structure NmOk (K : PySem.W.Frag) (C : Addr) (x : PySem.Str) : Prop where
  rp : PySem.W.findIn K (.ref C) "__repr__" = some (some (.builtin "BaseException.__repr__"))
  nm : nameOf K C x
def Ok (G : Gs) (ι : List Addr) (H : Hp) (nm : Nat → PySem.Str) (M : Store) (n : Nat) (as : List Addr) : Prop := ∀ b ∈ as, ∃ y, VR G.K ι H y (.ref b) ∧ (reprS nm M n y).isSome = true
theorem Ok.le {n m : Nat} {as : List Addr} (h : Ok G ι H nm M n as) (l : n ≤ m) : Ok G ι H nm M m as := fun b hb => by
  obtain ⟨y, h1, h2⟩ := h b hb
  obtain ⟨z, hz⟩ := Option.isSome_iff_exists.mp h2
  exact ⟨y, h1, by rw [reprS_le hz l]; rfl⟩
theorem Ok.app {n : Nat} {as bs : List Addr} (h : Ok G ι H nm M n as) (k : Ok G ι H nm M n bs) : Ok G ι H nm M n (as ++ bs) := fun b hb => (List.mem_append.mp hb).elim (h b) (k b)
/-- the address of what is shown now is none of its parts' -/
theorem notIn (I : Inv X pins σ H s) (gk : G.K = X.K) (hr : HR G ι M H) {n : Nat} {x : Val} {a : Addr} {as : List Addr} (hx : (reprS nm M (n + 1) x).isSome = true) (hn : ¬ (reprS nm M n x).isSome = true) (r : VR G.K ι H x (.ref a)) (h : Ok G ι H nm M n as) : a ∉ as := fun z => by
  obtain ⟨y, h1, h2⟩ := h a z
  have hy : (reprS nm M (n + 1) y).isSome = true := by
    obtain ⟨t, ht⟩ := Option.isSome_iff_exists.mp h2
    rw [reprS_mono ht]; rfl
  have e := det (nm := nm) I gk hr (n + 1) x y _ hx hy r h1
  rw [e] at hn
  exact hn h2
end
end Mi
end MiRepr3S

section MiRepr4S
set_option Elab.async false
set_option linter.all false
set_option maxRecDepth 100000
namespace Mi
open PySem L2
/-- a value's text, within others and by itself -/
structure Sh (P : Program) (w : World) (h : Heap) (as : List Addr) (d : Nat) (u : Value) (t : PySem.Str) : Prop where
  k : ReprK P w as h d u t
  top : ∀ (A : Around) (E : Value → Shared → Prop) (z : Shared) (Q : Value → Shared → Prop), A.guards = some [] → A.units + (d + 2) < cLine → (∀ b o, h.get? b = some o → z.heap.get? b = some o) → t.length ≤ sizeLine →
    (∀ h' tk y, (∀ b o, z.heap.get? b = some o → h'.get? b = some o) → Q (.str t y) { z with heap := h', toks := tk }) → wpAny (model P w) A (PySem.call (.builtin "repr") [u]) Q E z
section
variable {P : Program} {w : World} {h : Heap} {as : List Addr} {d : Nat}
theorem sh_non : Sh P w h as d .none "None" := ⟨ReprK.of_is ReprIs.none as h d, fun A E z Q _ _ _ _ hQ => PySem.P.repr_of_none (hQ z.heap _ _ fun _ _ e => e)⟩
theorem sh_bl {b : Bool} : Sh P w h as d (.bool b) (if b then "True" else "False") := ⟨ReprK.of_is (ReprIs.bool b) as h d, fun A E z Q _ _ _ _ hQ => PySem.P.repr_of_bool (hQ z.heap _ _ fun _ _ e => e)⟩
theorem sh_int {i : Int} {t : Tok} (hi : i.natAbs.log2 < 1920) : Sh P w h as d (.int i t) (toString i : String) := ⟨ReprK.of_is (ReprIs.int t hi) as h d, fun A E z Q _ _ _ _ hQ => PySem.P.repr_of_int hi (hQ z.heap _ _ fun _ _ e => e)⟩
theorem sh_str {x : PySem.Str} {t : Tok} (hx : (reprText x).length ≤ sizeLine) : Sh P w h as d (.str x t) (reprText x) := ⟨ReprK.of_is (ReprIs.str x t hx) as h d, fun A E z Q _ _ _ _ hQ => PySem.P.repr_of_str (hQ z.heap _ _ fun _ _ e => e) hx⟩
theorem sh_tup {a : Addr} {its : List Value} {ts : List PySem.Str} (ht : PyProof.Rows.IsTup h a its.toArray) (na : a ∉ as) (hT : ReprAllK P w as h d its ts) : Sh P w h (a :: as) (d + 1) (.ref a) (tupleText ts) := by
  obtain ⟨o, h1, h2, n, h3⟩ := ht
  refine ⟨ReprK.tuple h1 h2 h3 na (by simpa using hT), fun A E z Q hg hu hk hz hQ => ?_⟩
  refine call_repr_slot (by omega) ⟨o, hk _ _ h1, h2⟩ F.slot_tuple_repr ?_
  exact call_tuple_reprK (A := A.in1) (g := []) h1 h2 h3 na (by simpa using hT) hg (fun b _ => Clear.nil b) (by show A.units + 1 + (d + 1) < cLine; omega) hk (fun h' y tk q => ⟨_, _, rfl, hQ h' tk y q⟩) hz
theorem sh_lst {a : Addr} {its : List Value} {n : Nat} {o : PySem.Obj} {ts : List PySem.Str} (h1 : h.get? a = some o) (h2 : o.cls = .type "list") (h3 : o.data = .seq its.toArray n) (na : a ∉ as) (hT : ReprAllK P w as h d its ts) : Sh P w h (a :: as) (d + 1) (.ref a) (listText ts) := by
  cases its with
  | nil =>
    cases hT
    rw [listText_nil]
    refine ⟨(ReprK.listEmpty h1 h2 h3).more (fun b hb => hb), fun A E z Q hg hu hk hz hQ => ?_⟩
    refine call_repr_slot (by omega) ⟨o, hk _ _ h1, h2⟩ F.slot_list_repr.toG ?_
    exact call_list_repr_empty ⟨o, hk _ _ h1, h2⟩ (hk _ _ h1) h3 ⟨_, _, rfl, hQ z.heap _ _ fun _ _ e => e⟩
  | cons x l =>
    have hl : ts.length = (x :: l).toArray.size := by simpa using hT.length_eq
    have hi : ∀ (i : Nat) (y : Value), (x :: l).toArray[i]? = some y → ∃ t, ts[i]? = some t ∧ ReprK P w as h d y t := fun i y e => hT.item i y (by simpa using e)
    refine ⟨ReprK.list h1 h2 h3 na hl hi, fun A E z Q hg hu hk hz hQ => ?_⟩
    refine call_repr_slot (by omega) ⟨o, hk _ _ h1, h2⟩ F.slot_list_repr.toG ?_
    exact call_list_reprK (A := A.in1) (g := []) h1 h2 h3 na hl hi hg (fun b _ => Clear.nil b) (by show A.units + 1 + (d + 1) < cLine; omega) hk (fun h' y tk q => ⟨_, _, rfl, hQ h' tk y q⟩) hz
theorem sh_dic {a : Addr} {es : Array DictEntry} {n : Nat} {o : PySem.Obj} {ts : List PySem.Str} (h1 : h.get? a = some o) (h2 : o.cls = .type "dict") (h3 : o.data = .dict es n) (hs : (a == sysModules) = false) (na : a ∉ as) (hT : ReprEntriesK P w as h d es.toList ts) : Sh P w h (a :: as) (d + 1) (.ref a) (dictText ts) := by
  refine ⟨ReprK.dict h1 h2 h3 hs na hT, fun A E z Q hg hu hk hz hQ => ?_⟩
  refine call_repr_slot (by omega) ⟨o, hk _ _ h1, h2⟩ F.slot_dict_repr ?_
  exact call_dict_reprK (A := A.in1) (g := []) h1 h2 h3 hs na hT hg (fun b _ => Clear.nil b) (by show A.units + 1 + (d + 1) < cLine; omega) hk (fun h' y tk q => ⟨_, _, rfl, hQ h' tk y q⟩) hz
end
section
open Builtin Builtin.BaseException
open PySem.W (Looks findIn subIn looks_findIn)
variable {prog : Program} {w : World} {M : Model} {A : Around} {E : Value → Shared → Prop} {s : Shared} {K : PySem.W.Frag} {C e t0 : Addr}
theorem callTop_C {h₀ : Heap} {nm : PySem.Str} {Q : Value → Shared → Prop} (x : PySem.ExcC K C e t0 h₀) (ht : h₀.TupAt t0 []) (hs : findIn K (.ref C) "__repr__" = some (some (.builtin "BaseException.__repr__"))) (hB : subIn K (.ref C) (.type "BaseException") = some true) (hn : nameOf K C nm)
    (hb : (excName nm).length + 2 ≤ sizeLine) (hg : A.guards = some []) (hu : A.units + 4 < cLine) (hk0 : ∀ b o, h₀.get? b = some o → s.heap.get? b = some o) (hQ : ∀ h' tk u, (∀ b o, s.heap.get? b = some o → h'.get? b = some o) → Q (.str (excName nm ++ PySem.Str.ofString "()") u) { s with heap := h', toks := tk }) :
    wpAny (model prog w) A (PySem.call (.builtin "BaseException.__repr__") [.ref e]) Q E s := by
  have xs := excC_keeps x hk0
  refine wpAny_call (codeAny_call_builtin F.excStr_Exception.repr.plain F.entry_bexc_repr (@PySem.W.check_slot (model prog w) _ _ s "BaseException.__repr__" "BaseException" "__repr__" (.ref e) [] [] _ (by decide +kernel) (by decide +kernel) (xs.LI hB) (F.args_bexc_repr _) ?_))
  refine wpAny_mono (body_C (base := 0) (A := A.in1) (g := []) x ht hn (by rw [Nat.zero_add]; exact hb) hg (fun b _ => Clear.nil b) (by show A.units + 1 + 2 < cLine; omega) hk0 hQ) (fun fin s' hv => by obtain ⟨v, rfl, q⟩ := hv; exact q) fun _ _ z => z
end
end Mi
end MiRepr4S

section MiRepr5S
set_option Elab.async false
set_option linter.all false
set_option maxRecDepth 100000
namespace Mi
section
open PySem Builtin Builtin.BaseException
open PySem.W (Looks findIn subIn looks_findIn)
variable {prog : Program} {w : World} {M : Model} {A : Around} {E : Value → Shared → Prop} {s : Shared} {K : PySem.W.Frag} {C e t0 : Addr}
theorem sh_own {h : Heap} {nm : PySem.Str} (x : PySem.ExcC K C e t0 h) (ht : h.TupAt t0 []) (hs : findIn K (.ref C) "__repr__" = some (some (.builtin "BaseException.__repr__"))) (hB : subIn K (.ref C) (.type "BaseException") = some true) (hn : nameOf K C nm) :
    Sh prog w h [t0] 3 (.ref e) (excName nm ++ PySem.Str.ofString "()") := by
  refine ⟨ownK x ht hs hB hn, fun A E z Q hg hu hk hz hQ => ?_⟩
  have xs := excC_keeps x hk
  have hf : Looks (model prog w) z.heap (typeLookup (.ref C) "__repr__") (some (.builtin "BaseException.__repr__")) := looks_findIn xs.1 hs
  have e2 : (PySem.Str.ofString "()").length = 2 := by rw [ofString_length]; rfl
  have hl : (excName nm).length + 2 ≤ sizeLine := by rw [len_app, e2] at hz; exact hz
  refine Calls.call_function_entry F.kind_repr F.plain_repr F.entry_repr (F.args_repr1 _) ?_
  unfold Builtin.«repr»
  refine wpAny_bind (m := oneArg "repr" _) (wpAny_pure ?_)
  refine wpAny_bind (m := cRoomFor _ _) (wpAny_cRoomFor (by show A.units + 1 < cLine; omega) ?_)
  refine wpAny_bind ?_
  unfold specialOf
  refine wpAny_bind (xs.LT.here (hf.here ?_))
  simp only [F.excStr_Exception.repr.bind]
  rw [if_neg (fun z => by cases z)]
  refine wpAny_bind (by_C (last := fun g first => PySem.call g (first ++ [])) (name := PySem.Str.ofString "__repr__") xs.LT hf (F.excStr_Exception.repr.bind _) ?_)
  show wpAny _ A.in1 (PySem.call (.builtin "BaseException.__repr__") [.ref e]) _ _ z
  refine callTop_C (A := A.in1) x ht hs hB hn hl hg (by show A.units + 1 + 4 < cLine; omega) hk fun h' tk u q => ?_
  exact wpAny_bind (wpAny_isInstance (T := "str") (b := true) rfl isSubtype_str_str (wpAny_pure ⟨_, rfl, hQ h' tk u q⟩))
end
section
open PySem L2
variable {X : Cx} {pins : List (Addr × PySem.Obj)} {σ : L2.St} {H : Hp} {s : Shared} {G : Gs} {ι : List Addr} {M : Store} {nm : Nat → PySem.Str}
theorem all_k {n : Nat} (ih : ∀ x v u z, VR G.K ι H x v → RelV v u → reprS nm M n x = some z → ∃ as, Ok G ι H nm M n as ∧ ReprK X.prog X.w as s.heap n u z) : ∀ {xs : List Val} {vs : List V} {us : List Value} {zs : List PySem.Str}, VRs G.K ι H xs vs → Vals vs us → optAll (xs.map (reprS nm M n)) = some zs →
    ∃ as, Ok G ι H nm M n as ∧ ReprAllK X.prog X.w as s.heap n us zs
  | [], vs, us, zs, r, k, h => by
    cases r
    cases k
    cases h
    exact ⟨[], (fun b hb => nomatch hb), .nil⟩
  | x :: xs, vs, us, zs, r, k, h => by
    cases r with
    | cons r1 r2 => cases k with
      | cons k1 k2 =>
        cases e : reprS nm M n x with
        | none => simp [optAll, e] at h
        | some z =>
          simp only [List.map_cons, e, optAll] at h
          obtain ⟨ys, h1, rfl⟩ := Option.map_eq_some_iff.mp h
          obtain ⟨a1, o1, q1⟩ := ih _ _ _ _ r1 k1 e
          obtain ⟨a2, o2, q2⟩ := all_k ih r2 k2 h1
          exact ⟨a1 ++ a2, o1.app o2, .cons (q1.more fun b hb => List.mem_append_left _ hb) (q2.more_le (fun b hb => List.mem_append_right _ hb) (Nat.le_refl _))⟩
theorem entries_more {P : Program} {w : World} {h : Heap} {as bs : List Addr} {d : Nat} (sub : ∀ b ∈ as, b ∈ bs) : ∀ {es : List DictEntry} {ps : List PySem.Str}, ReprEntriesK P w as h d es ps → ReprEntriesK P w bs h d es ps
  | _, _, .nil => .nil
  | _, _, .cons a b r => .cons (a.more sub) (b.more sub) (entries_more sub r)
theorem all_d {n : Nat} (ih : ∀ x v u z, VR G.K ι H x v → RelV v u → reprS nm M n x = some z → ∃ as, Ok G ι H nm M n as ∧ ReprK X.prog X.w as s.heap n u z) : ∀ {ks : List (Val × Val)} {ws : List (Key × V)} {vs : List (Key × Value)} {es : List DictEntry} {zs : List PySem.Str}, KVs G.K ι H ks ws → KV ws vs → Pairs (mixKind X.prog X.w) es vs →
    optAll (ks.map fun p => (reprS nm M n p.1).bind fun a => (reprS nm M n p.2).map fun b => a ++ ": " ++ b) = some zs → ∃ as, Ok G ι H nm M n as ∧ ReprEntriesK X.prog X.w as s.heap n es zs
  | [], ws, vs, es, zs, r, k, p, h => by
    cases r
    cases k
    cases p
    cases h
    exact ⟨[], (fun b hb => nomatch hb), .nil⟩
  | x :: xs, ws, vs, es, zs, r, k, p, h => by
    cases r with
    | cons r1 r2 => cases k with
      | cons k1 k2 => cases p with
        | cons p1 p2 p3 =>
          rename_i w1 w2 v1 v2 e1 es
          cases ea : reprS nm M n x.1 with
          | none => simp [optAll, ea] at h
          | some za =>
            cases eb : reprS nm M n x.2 with
            | none => simp [optAll, ea, eb] at h
            | some zb =>
              simp only [List.map_cons, ea, eb, optAll, Option.bind_some, Option.map_some] at h
              obtain ⟨ys, h1, rfl⟩ := Option.map_eq_some_iff.mp h
              obtain ⟨a2, o2, q2⟩ := all_d ih r2 k2 p3 h1
              have rk : ∃ kv, VR G.K ι H x.1 kv ∧ RelV kv e1.key := by
                have pk : keyIs v1.1 e1.key = true := p1
                rw [← k1.1] at pk
                refine ⟨kV w1.1, r1.1.2, ?_⟩
                rcases keyIs_shape pk with ⟨i, t, ek, ev⟩ | ⟨y, t, ek, ev⟩
                · rw [ek, ev]; exact ⟨t, rfl⟩
                · rw [ek, ev]; exact ⟨t, rfl⟩
              obtain ⟨kv, rk1, rk2⟩ := rk
              obtain ⟨a1, o1, q1⟩ := ih _ _ _ _ rk1 rk2 ea
              obtain ⟨a3, o3, q3⟩ := ih _ _ _ _ r1.2 (show RelV w1.2 e1.val by rw [p2]; exact k1.2) eb
              exact ⟨a1 ++ (a3 ++ a2), o1.app (o3.app o2), .cons (q1.more fun b hb => List.mem_append_left _ hb) (q3.more fun b hb => List.mem_append_right _ (List.mem_append_left _ hb)) (entries_more (fun b hb => List.mem_append_right _ (List.mem_append_right _ hb)) q2)⟩
end
end Mi
end MiRepr5S

section MiRepr6S
set_option Elab.async false
set_option linter.all false
set_option maxRecDepth 100000
namespace Mi
open PySem L2
section
variable {X : Cx} {pins : List (Addr × PySem.Obj)} {σ : L2.St} {H : Hp} {s : Shared} {G : Gs} {ι : List Addr} {M : Store} {nm : Nat → PySem.Str}
/-- what is shown now, from what its parts show -/
theorem showN (I : Inv X pins σ H s) (gk : G.K = X.K) (hr : HR G ι M H) (ck : ∀ c, NmOk X.K (G.cls c) (nm c)) (cb : ∀ c, ExcC X.K (G.cls c)) {n : Nat} (ih : ∀ x v u z, VR G.K ι H x v → RelV v u → reprS nm M n x = some z → ∃ as, Ok G ι H nm M n as ∧ ReprK X.prog X.w as s.heap n u z) {x : Val} {v : V} {u : Value} {z : PySem.Str}
    (r : VR G.K ι H x v) (rv : RelV v u) (e : reprS nm M (n + 1) x = some z) (hn : ¬ (reprS nm M n x).isSome = true) : ∃ as, Ok G ι H nm M (n + 1) as ∧ Sh X.prog X.w s.heap as (n + 1) u z := by
  have e0 := e
  have hx : (reprS nm M (n + 1) x).isSome = true := by rw [e]; rfl
  have self : ∀ {a : Addr} {as : List Addr}, v = .ref a → Ok G ι H nm M n as → Ok G ι H nm M (n + 1) (a :: as) := fun {a as} ev o b hb => by
    rcases List.mem_cons.mp hb with rfl | hb
    · exact ⟨x, by rw [← ev]; exact r, hx⟩
    · exact (o.le (Nat.le_succ n)) b hb
  unfold reprS at e
  cases r with
  | fn x => unfold reprS at e; cases e
  | non => cases e; cases rv; exact ⟨[], (fun b hb => nomatch hb), sh_non⟩
  | bl b => cases e; cases rv; exact ⟨[], (fun b hb => nomatch hb), sh_bl⟩
  | int i =>
    obtain ⟨t, rfl⟩ := rv
    simp only at e
    split at e
    · rename_i hi
      cases e
      exact ⟨[], (fun b hb => nomatch hb), sh_int hi⟩
    · cases e
  | str y hy =>
    obtain ⟨t, rfl⟩ := rv
    simp only at e
    split at e
    · rename_i hi
      cases e
      exact ⟨[], (fun b hb => nomatch hb), sh_str hi⟩
    · cases e
  | frz q r2 => cases e
  | @tup a xs vs q r2 =>
    obtain ⟨zs, h1, rfl⟩ := Option.map_eq_some_iff.mp e
    cases rv
    obtain ⟨its, rv2, ht, _⟩ := I.tuple (show SqT X.K H a vs by rw [← gk]; exact q)
    obtain ⟨as, o, k⟩ := all_k ih r2 rv2 h1
    exact ⟨a :: as, self rfl o, sh_tup ht (notIn I gk hr hx hn (.tup q r2) o) k⟩
  | @ref k a ea =>
    cases rv
    simp only at e
    obtain ⟨ob, em, ho⟩ := hr.got ea
    rw [em] at e
    cases ob with
    | lst xs =>
      obtain ⟨zs, h1, rfl⟩ := Option.map_eq_some_iff.mp e
      obtain ⟨vs, e1, r2⟩ := ho
      obtain ⟨_, its, m, rv2, e2⟩ := I.hok a _ e1
      obtain ⟨as, o, kk⟩ := all_k ih r2 rv2 h1
      exact ⟨a :: as, self rfl o, sh_lst e2 rfl rfl (notIn I gk hr hx hn (.ref ea) o) kk⟩
    | dic ks =>
      obtain ⟨zs, h1, rfl⟩ := Option.map_eq_some_iff.mp e
      obtain ⟨ws, e1, r2⟩ := ho
      obtain ⟨_, hsys, vs, rv2, od, es, ep, e2, hd, hdat, _, hp, _⟩ := I.hok a _ e1
      obtain ⟨as, o, kk⟩ := all_d ih r2 rv2 hp h1
      exact ⟨a :: as, self rfl o, sh_dic e2 hd.1 hdat hsys (notIn I gk hr hx hn (.ref ea) o) kk⟩
    | dit ks => cases e
    | exv c =>
      simp only at e
      split at e
      · rename_i h2
        cases e
        obtain ⟨t, e1, e3⟩ := ho
        obtain ⟨⟨oe, vs, g1, hz, hv, h0, _⟩, _, _⟩ := I.hok a _ e1
        obtain ⟨_, its, rv2, o2, g2, c2, m2, d2⟩ := I.hok t _ e3
        cases rv2
        have xc : PySem.ExcC X.K (G.cls c) a t s.heap := ⟨I.kIn, oe, vs, g1, hz.1, hv, h0⟩
        have S := sh_own (prog := X.prog) (w := X.w) xc ⟨o2, m2, g2, c2, d2⟩ (ck c).rp (cb c).hs (ck c).nm
        refine ⟨[t], fun b hb => ?_, ⟨S.k.level_le (by omega), fun A E z Q hg hu hk hz hQ => S.top A E z Q hg (by omega) hk hz hQ⟩⟩
        have eb : b = t := by simpa using hb
        subst eb
        refine ⟨.tup [], .tup (SqT.of e3) .nil, ?_⟩
        have : reprS nm M (n + 1) (.tup []) = some (tupleText []) := rfl
        rw [this]; rfl
      · cases e
theorem shows (I : Inv X pins σ H s) (gk : G.K = X.K) (hr : HR G ι M H) (ck : ∀ c, NmOk X.K (G.cls c) (nm c)) (cb : ∀ c, ExcC X.K (G.cls c)) : ∀ (n : Nat) (x : Val) (v : V) (u : Value) (z : PySem.Str), VR G.K ι H x v → RelV v u → reprS nm M n x = some z → ∃ as, Ok G ι H nm M n as ∧ Sh X.prog X.w s.heap as n u z
  | 0, x, v, u, z, _, _, e => by unfold reprS at e; cases e
  | n + 1, x, v, u, z, r, rv, e => by
    by_cases hn : (reprS nm M n x).isSome = true
    · obtain ⟨y, hy⟩ := Option.isSome_iff_exists.mp hn
      have : y = z := by
        have := reprS_mono hy
        rw [e] at this
        exact (Option.some.inj this).symm
      subst this
      obtain ⟨as, o, S⟩ := shows I gk hr ck cb n x v u y r rv hy
      exact ⟨as, o.le (Nat.le_succ n), ⟨S.k.level_le (Nat.le_succ n), fun A E z Q hg hu hk hz hQ => S.top A E z Q hg (by omega) hk hz hQ⟩⟩
    · exact showN I gk hr ck cb (fun x v u z r rv e => let ⟨as, o, S⟩ := shows I gk hr ck cb n x v u z r rv e; ⟨as, o, S.k⟩) r rv e hn
end
/-- the program's repr, by the store -/
def reprP (nm : Nat → PySem.Str) (v : Val) (M : Store) : Option (List Nat) := (reprS nm M 40 v).bind fun z => if z.cps.toList.length ≤ LIM ∧ ∀ c ∈ z.cps.toList, c < 128 then some z.cps.toList else none
theorem reprP_ok {nm : Nat → PySem.Str} {v : Val} {M : Store} {z : List Nat} (h : reprP nm v M = some z) : okS z := by
  obtain ⟨y, _, h⟩ := Option.bind_eq_some_iff.mp h
  split at h
  · rename_i c
    cases h
    exact ⟨c.1, c.2⟩
  · cases h
theorem rep_ok {G : Gs} {nm : Nat → PySem.Str} (ck : ∀ c, NmOk G.K (G.cls c) (nm c)) (cb : ∀ c, ExcC G.K (G.cls c)) : RepOk G (reprP nm) 0 := by
  rintro X gk hg room hc ps s σ H xs us Q I r ⟨ι, M, a, v, z, rfl, hr, ra, e, hz, q⟩
  obtain ⟨u, rfl, ru⟩ := vals1 r
  obtain ⟨y, e1, e2⟩ := Option.bind_eq_some_iff.mp e
  split at e2
  · rename_i c
    cases e2
    have ey : toS y.cps.toList = y := by cases y; simp [toS]
    obtain ⟨as, _, S⟩ := shows (nm := nm) I gk.symm hr (fun c => by rw [gk]; exact ck c) (fun c => by rw [gk]; exact cb c) 40 a v u y ra ru e1
    refine S.top _ _ _ _ hg ?_ (fun _ _ z => z) ?_ fun h' tk t hk => ?_
    · have := room.un
      omega
    · have := c.1
      rw [← lim_eq]
      simpa [PySem.Str.length] using this
    · rw [ey] at q
      exact ⟨.str y, H, I.kept (t' := tk) hk, ⟨t, rfl⟩, q⟩
  · cases e2
end Mi
end MiRepr6S

section MiRun12S
set_option Elab.async false
set_option linter.all false
set_option maxRecDepth 100000
namespace Mi
open PySem L2
def cTg (ct : Ct) : Expr → Option Tg
  | .Name x _ => gd (stoB ct x) ((ixOf ct.N x).map .one)
  | .Tuple es _ _ => (namesAt ct es).map .many
  | _ => none
def ownOf (ct : Ct) (scope : Scope) : List (Str × Nat) := scope.names.filterMap fun p => match p.2 with
  | .local => (ixOf ct.N p.1).map fun i => (p.1, i)
  | .cell => (ixOf ct.N p.1).map fun i => (p.1, i)
  | _ => none
def isNeg1 : E → Bool
  | .neg (.cst (.int i)) => decide (i = 1)
  | _ => false
theorem isNeg1_ok {m : E} (h : isNeg1 m = true) : m = .neg (.cst (.int 1)) := by
  unfold isNeg1 at h
  split at h
  · rw [of_decide_eq_true h]
  · cases h
def isL : Expr → Bool
  | .List _ _ => true
  | .ListComp _ _ _ _ => true
  | .Call (.Name x _) [_] [] _ => decide (x = "list") || decide (x = "sorted")
  | _ => false
def cXs (c : Expr → Option E) : List Expr → Option Sx
  | [] => some .nil
  | e :: r => match e with
    | .Starred a _ => (c a).bind fun m => (cXs c r).map (.star m)
    | e => gd (notStar e) ((c e).bind fun m => (cXs c r).map (.cons m))
mutual
def cE : Nat → Ct → Expr → Option E
  | 0, _, _ => none
  | n + 1, ct, e => if isL e then (cL n ct e).map .lst else match e with
    | .Name x _ => cName ct x
    | .Constant c _ _ => cCon c
    | .BinOp a o b _ => (opOf o).bind fun mo => (cE n ct a).bind fun ma => (cE n ct b).bind fun mb => some (.op mo ma mb)
    | .UnaryOp o a _ => match o with
      | .Not => (cE n ct a).map .not
      | .USub => (cE n ct a).map .neg
      | _ => none
    | .BoolOp o vs p => match vs with
      | [a] => cE n ct a
      | a :: b :: r => (cE n ct a).bind fun ma => (cE n ct (.BoolOp o (b :: r) p)).bind fun mb => some (match o with
        | .And => .and ma mb
        | .Or => .or ma mb)
      | _ => none
    | .Compare a os bs _ => match os, bs with
      | [o], [b] => match tabName ct b with
        | some x => (inOf o).bind fun g => (cE n ct a).map fun ma => .tin g ma x
        | none => if isL b && (inOf o).isSome then (inOf o).bind fun g => (cE n ct a).bind fun ma => (cL n ct b).bind fun l => gd (notSet b) (some (.inl g ma l)) else (cE n ct a).bind fun ma => (cE n ct b).bind fun mb => gd (notSet b) (some (.cmp (coOf o) ma mb))
      | [o, p], [b, c] => (cE n ct a).bind fun ma => (cE n ct b).bind fun mb => (cE n ct c).bind fun mc => gd (notSet c) (some (.chain (coOf o) (coOf p) ma mb mc))
      | _, _ => none
    | .IfExp c a b _ => (cQ n ct c).bind fun mc => (cE n ct a).bind fun ma => (cE n ct b).bind fun mb => some (.ite mc ma mb)
    | .Tuple es _ _ => if es.all notStar then (cEs n ct es).map .tup else (cXs (fun e => cE n ct e) es).map .tupx
    | .Dict ks vs _ => if ks.isEmpty && vs.isEmpty then some (.dic .nil) else (cP n ct ks vs).bind fun ms => gd (ks.all (·.isSome) && decide (ks.length = vs.length) && !ks.isEmpty && decide (ks.length ≤ 15) && decide (ms.length ≤ 15)) (some (.dic (flatE ms)))
    | .Subscript a i _ => match i with
      | .Slice lo hi st _ => if st.isSome then (match lo, hi, st with
        | none, none, some k => (cE n ct k).bind fun mk => gd (isNeg1 mk) ((cE n ct a).map .rev)
        | _, _, _ => none) else gd st.isNone ((cE n ct a).bind fun ma => (cEo n ct lo).bind fun ml => (cEo n ct hi).bind fun mh => some (.sl ma ml mh))
      | _ => gd (notSlice i) (match tabName ct a with
        | some x => (cE n ct i).map (.tget x)
        | none => if isL a then (cL n ct a).bind fun ma => (cE n ct i).bind fun mi => some (.ixl ma mi) else (cE n ct a).bind fun ma => (cE n ct i).bind fun mi => some (.ix ma mi))
    | .Call f es kw cp => gd (kw.isEmpty && es.all notStar) (match f with
      | .Name x _ => if visB ct.sc x then gd (nDbg x && nCld x && !es.isEmpty) ((ixOf ct.N x).bind fun i => (cEs n ct es).map (.callv i)) else gd (nDbg x && glB ct.sc x) (match ct.gl x with
        | some (.fn g k) => (cEs n ct es).bind fun ms => gd (decide (ms.len = k)) (some (.call g ms))
        | some (.exc c) => match es with
          | [] => some (.newx c)
          | _ => none
        | some .blt => match es with
          | [a] => if isL a && (bilOf x).isSome then (bilOf x).bind fun b => (cL n ct a).bind fun l => some (.bil b l) else (biOf x).bind fun b => (cE n ct a).bind fun ma => some (.bi b ma)
          | [a, b] => if x = "isinstance" then (match b with
            | .Name c _ => gd (bltB ct c) ((clOf c).bind fun cl => (cE n ct a).bind fun ma => some (.isi ma cl))
            | .Tuple cs _ _ => (clsAt ct cs).bind fun cl => (cE n ct a).map fun ma => .isis ma cl
            | _ => none) else (bnOf x).bind fun f => (cE n ct a).bind fun ma => (cE n ct b).bind fun mb => some (.bin f ma mb)
          | _ => none
        | _ => none)
      | .Attribute o m ap => gd (notCall0 o && (ap.endLine == cp.line)) (match mdOf m with
        | some md => (cE n ct o).bind fun mo => (cEs n ct es).bind fun ms => gd (decide (es.length < 20)) (some (.mtd md mo ms))
        | none => match es with
          | [] => (mtOf m).bind fun mm => (cE n ct o).bind fun mo => some (.mt mm mo)
          | [a] => gd (decide (m = "join")) ((cE n ct o).bind fun mo => if isL a then (cL n ct a).bind fun l => some (.join mo l) else (cE n ct a).bind fun ma => some (.joinv mo ma))
          | _ => none)
      | _ => none)
    | _ => none
/-- as a test -/
def cQ : Nat → Ct → Expr → Option E
  | 0, _, _ => none
  | n + 1, ct, e => match e with
    | .UnaryOp .Not a _ => (cQ n ct a).map .not
    | .BoolOp o vs p => match vs with
      | [a] => cQ n ct a
      | a :: b :: r => (cQ n ct a).bind fun ma => (cQ n ct (.BoolOp o (b :: r) p)).bind fun mb => some (match o with
        | .And => .and ma mb
        | .Or => .or ma mb)
      | _ => none
    | .Compare a os bs _ => match os, bs with
      | [o], [b] => match tabName ct b with
        | some x => (inOf o).bind fun g => (cE n ct a).map fun ma => .tin g ma x
        | none => if isL b && (inOf o).isSome then (inOf o).bind fun g => (cE n ct a).bind fun ma => (cL n ct b).bind fun l => gd (notSet b) (some (.inl g ma l)) else (cE n ct a).bind fun ma => (cE n ct b).bind fun mb => gd (notSet b) (some (.cmp (coOf o) ma mb))
      | [o, p], [b, c] => (cE n ct a).bind fun ma => (cE n ct b).bind fun mb => (cE n ct c).bind fun mc => gd (notSet c) (some (.chain (coOf o) (coOf p) ma mb mc))
      | _, _ => none
    | _ => gd (plainTest e) (cE n ct e)
def cEs : Nat → Ct → List Expr → Option Es
  | 0, _, _ => none
  | n + 1, ct, es => match es with
    | [] => some .nil
    | e :: r => gd (notStar e) ((cE n ct e).bind fun m => (cEs n ct r).bind fun ms => some (.cons m ms))
def cEo : Nat → Ct → Option Expr → Option Eo
  | 0, _, _ => none
  | n + 1, ct, o => match o with
    | none => some .none
    | some e => (cE n ct e).map .some
def cP : Nat → Ct → List (Option Expr) → List Expr → Option (List (E × E))
  | 0, _, _, _ => none
  | n + 1, ct, ks, vs => match ks, vs with
    | [], [] => some []
    | some k :: ks, v :: vs => (cE n ct k).bind fun mk => (cE n ct v).bind fun mv => (cP n ct ks vs).bind fun ms => some ((mk, mv) :: ms)
    | _, _ => none
/-- as a list just made -/
def cL : Nat → Ct → Expr → Option L
  | 0, _, _ => none
  | n + 1, ct, e => match e with
    | .List es _ => (cEs n ct es).map .disp
    | .Call f es kw _ => match f, es, kw with
      | .Name x _, [a], [] => if x = "sorted" then gd (bltB ct x && notStar a) ((cE n ct a).map .srt) else gd (decide (x = "list") && bltB ct x && notStar a) (match a with
        | .Call (.Name y _) [b, c] [] _ => if y = "range" then gd (bltB ct y && notStar b && notStar c) ((cE n ct b).bind fun mb => (cE n ct c).map (.rng2 mb)) else (cE n ct a).map .list
        | _ => (cE n ct a).map .list)
      | _, _, _ => none
    | .ListComp elt gs scope _ => match gs with
      | [⟨tg, iter, ifs, a⟩] => (cS n ct tg iter).bind fun src => (cTg (ct.blk scope) tg).bind fun t => (cI n (ct.blk scope) ifs).bind fun cs => (cE n (ct.blk scope) elt).bind fun m =>
        gd (decide (a = 0) && notSet iter && blkC ct.N ct.sc scope (ownOf ct scope) && t.slots.all fun i => ((ownOf ct scope).map (·.2)).contains i) (some (.comp ((ownOf ct scope).map (·.2)) t src cs m))
      | _ => none
    | _ => none
def cS : Nat → Ct → Expr → Expr → Option Src
  | 0, _, _, _ => none
  | n + 1, ct, tg, e => if isL e then (cL n ct e).map .fresh else match e with
    | .Call f es kw _ => match f, es, kw with
      | .Name x _, [a], [] => if x = "range" then gd (bltB ct x && notStar a) ((cE n ct a).map .rng) else (cE n ct e).map .seq
      | .Name x _, [a, b], [] => if x = "range" then gd (bltB ct x && notStar a && notStar b) ((cE n ct a).bind fun ma => (cE n ct b).map (.rng2 ma)) else if x = "zip" then gd (bltB ct x && notStar a && notStar b && isTupE tg) ((cE n ct a).bind fun ma => (cE n ct b).map (.zip ma)) else (cE n ct e).map .seq
      | _, _, _ => (cE n ct e).map .seq
    | _ => (cE n ct e).map .seq
def cI : Nat → Ct → List Expr → Option Es
  | 0, _, _ => none
  | n + 1, ct, es => match es with
    | [] => some .nil
    | [c] => (cQ n ct c).map fun m => .cons m .nil
    | _ => none
end
end Mi
end MiRun12S

section MiRun13S
set_option Elab.async false
set_option linter.all false
set_option maxRecDepth 100000
namespace Mi
open PySem L2
structure Snd (n : Nat) : Prop where
  e : ∀ {X : Cx} {G : Gs} {W : WX} {cf : Cf} {ct : Ct} {lv : Nat}, Good X G W cf ct lv → (∀ v M z, cf.repr v M = some z → okS z) → ∀ e m, cE n ct e = some m → PE X e (tE G W cf m)
  q : ∀ {X : Cx} {G : Gs} {W : WX} {cf : Cf} {ct : Ct} {lv : Nat}, Good X G W cf ct lv → (∀ v M z, cf.repr v M = some z → okS z) → ∀ e m, cQ n ct e = some m → PT X e (tT G W cf m) ∧ ∀ o vs p, e = .BoolOp o vs p → PW X e (tT G W cf m)
  es : ∀ {X : Cx} {G : Gs} {W : WX} {cf : Cf} {ct : Ct} {lv : Nat}, Good X G W cf ct lv → (∀ v M z, cf.repr v M = some z → okS z) → ∀ e m, cEs n ct e = some m → PA X e (tEs G W cf m)
  eo : ∀ {X : Cx} {G : Gs} {W : WX} {cf : Cf} {ct : Ct} {lv : Nat}, Good X G W cf ct lv → (∀ v M z, cf.repr v M = some z → okS z) → ∀ e m, cEo n ct e = some m → PO X e (tEo G W cf m)
  p : ∀ {X : Cx} {G : Gs} {W : WX} {cf : Cf} {ct : Ct} {lv : Nat}, Good X G W cf ct lv → (∀ v M z, cf.repr v M = some z → okS z) → ∀ pos ks vs m, cP n ct ks vs = some m → PPs X pos ks vs (trsOf G W cf m)
  l : ∀ {X : Cx} {G : Gs} {W : WX} {cf : Cf} {ct : Ct} {lv : Nat}, Good X G W cf ct lv → (∀ v M z, cf.repr v M = some z → okS z) → ∀ e m, cL n ct e = some m → PE X e (tL G W cf m)
  s : ∀ {X : Cx} {G : Gs} {W : WX} {cf : Cf} {ct : Ct} {lv : Nat}, Good X G W cf ct lv → (∀ v M z, cf.repr v M = some z → okS z) → ∀ tg e m, cS n ct tg e = some m → PI X tg e (tS G W cf m)
  i : ∀ {X : Cx} {G : Gs} {W : WX} {cf : Cf} {ct : Ct} {lv : Nat}, Good X G W cf ct lv → (∀ v M z, cf.repr v M = some z → okS z) → ∀ e m, cI n ct e = some m → PTs X e (tTs G W cf m)
section
variable {X : Cx} {G : Gs} {W : WX} {cf : Cf} {ct : Ct} {lv : Nat}
theorem nDbg_ok {x : Str} (h : nDbg x = true) : (x == ("__debug__" : Str)) = false := by
  unfold nDbg at h
  rwa [Bool.not_eq_true'] at h
theorem nCld_ok {x : Str} (h : nCld x = true) : (x == ("__classdict__" : Str)) = false := by
  unfold nCld at h
  rwa [Bool.not_eq_true'] at h
theorem name_ok (g : Good X G W cf ct lv) {x : Str} {pos : Pos} {m : E} (h : cName ct x = some m) : PE X (.Name x pos) (tE G W cf m) := by
  replace h := gd_some h; obtain ⟨h1, h⟩ := h
  split at h
  · rename_i hv
    replace h := gd_some h; obtain ⟨h2, h⟩ := h
    obtain ⟨i, hi, rfl⟩ := Option.map_eq_some_iff.mp h
    exact e_var g (ixOf_ok hi) hv (nDbg_ok h1) (nCld_ok h2)
  · replace h := gd_some h; obtain ⟨h2, h⟩ := h
    split at h
    · rename_i v hx
      cases h
      exact e_con g h2 hx (nDbg_ok h1)
    · rename_i i k hx
      cases h
      exact e_fnv g hx h2 (nDbg_ok h1)
    · cases h
theorem con_ok (g : Good X G W cf ct lv) {c : Const} {k : Nat} {pos : Pos} {m : E} (h : cCon c = some m) : PE X (.Constant c k pos) (tE G W cf m) := by
  unfold cCon at h
  split at h
  · cases h; exact e_cst g pe_non fun _ _ => .non
  · cases h; exact e_cst g pe_bl fun _ _ => .bl _
  · cases h; exact e_cst g pe_int fun _ _ => .int _
  · rename_i s
    obtain ⟨h1, h2⟩ := gd_some h
    cases h2
    rw [Bool.and_eq_true, decide_eq_true_eq, List.all_eq_true] at h1
    refine e_cst g pe_str fun ι H => ?_
    have e : s = toS s.cps.toList := by
      cases s; simp [toS]
    have := VR.str (K := G.K) (ι := ι) (H := H) s.cps.toList ⟨h1.1, fun c hc => of_decide_eq_true (h1.2 c hc)⟩
    rw [← e] at this
    exact this
  · cases h
theorem xs_ok (g : Good X G W cf ct lv) {c : Expr → Option E} (hc : ∀ e m, c e = some m → PE X e (tE G W cf m)) : ∀ {es : List Expr} {ms : Sx}, cXs c es = some ms → PA X es (tXs G W cf ms)
  | [], ms, h => by
    unfold cXs at h
    cases h
    exact tx_nil
  | e :: r, ms, h => by
    unfold cXs at h
    split at h
    · obtain ⟨m, h1, h⟩ := Option.bind_eq_some_iff.mp h
      obtain ⟨mr, h2, rfl⟩ := Option.map_eq_some_iff.mp h
      exact tx_star g (hc _ _ h1) (xs_ok g hc h2)
    · obtain ⟨h0, h⟩ := gd_some h
      obtain ⟨m, h1, h⟩ := Option.bind_eq_some_iff.mp h
      obtain ⟨mr, h2, rfl⟩ := Option.map_eq_some_iff.mp h
      exact tx_cons (hc _ _ h1) (xs_ok g hc h2) h0
theorem tgt_ok (g : Good X G W cf ct lv) {tg : Expr} {t : Tg} (h : cTg ct tg = some t) : PG X tg (gT G t) := by
  unfold cTg at h
  split at h
  · replace h := gd_some h; obtain ⟨h1, h⟩ := h
    obtain ⟨i, hi, rfl⟩ := Option.map_eq_some_iff.mp h
    exact g_one g (ixOf_ok hi) h1
  · obtain ⟨is, hi, rfl⟩ := Option.map_eq_some_iff.mp h
    exact g_many g hi
  · cases h
theorem cP_none {n : Nat} {ks : List (Option Expr)} : cP n ct ks [] = some ([] : List (E × E)) → True := fun _ => trivial
theorem isSome_none {α : Type} {o : Option α} (h : o.isNone = true) : o = none := by cases o <;> first | rfl | cases h
theorem e_cmpO (g : Good X G W cf ct lv) {a b : Expr} {ma mb : E} {o : CmpOp} {pos : Pos} (ha : PE X a (tE G W cf ma)) (hb : PE X b (tE G W cf mb)) (hn : notSet b = true) : PE X (.Compare a [o] [b] pos) (tE G W cf (.cmp (coOf o) ma mb)) := by
  have z := e_cmp (o := coOf o) (pos := pos) g ha hb hn
  rw [← coOf_ok] at z
  exact z
theorem e_chainO (g : Good X G W cf ct lv) {a b c : Expr} {ma mb mc : E} {o p : CmpOp} {pos : Pos} (ha : PE X a (tE G W cf ma)) (hb : PE X b (tE G W cf mb)) (hc : PE X c (tE G W cf mc)) (hn : notSet c = true) : PE X (.Compare a [o, p] [b, c] pos) (tE G W cf (.chain (coOf o) (coOf p) ma mb mc)) := by
  have z := e_chain (o := coOf o) (p := coOf p) (pos := pos) g ha hb hc hn
  rw [← coOf_ok, ← coOf_ok] at z
  exact z
theorem t_cmpO (g : Good X G W cf ct lv) {a b : Expr} {ma mb : E} {o : CmpOp} {pos : Pos} (ha : PE X a (tE G W cf ma)) (hb : PE X b (tE G W cf mb)) (hn : notSet b = true) : PT X (.Compare a [o] [b] pos) (tT G W cf (.cmp (coOf o) ma mb)) := by
  have z := t_cmp (o := coOf o) (pos := pos) g ha hb hn
  rw [← coOf_ok] at z
  exact z
theorem t_chainO (g : Good X G W cf ct lv) {a b c : Expr} {ma mb mc : E} {o p : CmpOp} {pos : Pos} (ha : PE X a (tE G W cf ma)) (hb : PE X b (tE G W cf mb)) (hc : PE X c (tE G W cf mc)) (hn : notSet c = true) : PT X (.Compare a [o, p] [b, c] pos) (tT G W cf (.chain (coOf o) (coOf p) ma mb mc)) := by
  have z := t_chain (o := coOf o) (p := coOf p) (pos := pos) g ha hb hc hn
  rw [← coOf_ok, ← coOf_ok] at z
  exact z
theorem snd_e (n : Nat) (S : Snd n) (g : Good X G W cf ct lv) (ho : ∀ v M z, cf.repr v M = some z → okS z) (e : Expr) (m : E) (h : cE (n + 1) ct e = some m) : PE X e (tE G W cf m) := by
  unfold cE at h
  split at h
  · obtain ⟨l, hl, rfl⟩ := Option.map_eq_some_iff.mp h
    exact e_lst (S.l g ho _ _ hl)
  · rename_i hnl
    clear hnl
    split at h
    · exact name_ok g h
    · exact con_ok g h
    · replace h := Option.bind_eq_some_iff.mp h; obtain ⟨mo, h1, h⟩ := h
      replace h := Option.bind_eq_some_iff.mp h; obtain ⟨ma, h2, h⟩ := h
      replace h := Option.bind_eq_some_iff.mp h; obtain ⟨mb, h3, h⟩ := h
      cases h
      rw [opOf_ok h1]
      exact e_op g (S.e g ho _ _ h2) (S.e g ho _ _ h3)
    · split at h
      · obtain ⟨ma, h1, rfl⟩ := Option.map_eq_some_iff.mp h
        exact e_not g (S.e g ho _ _ h1)
      · obtain ⟨ma, h1, rfl⟩ := Option.map_eq_some_iff.mp h
        exact e_neg g (S.e g ho _ _ h1)
      · cases h
    · split at h
      · exact pe_one (S.e g ho _ _ h)
      · replace h := Option.bind_eq_some_iff.mp h; obtain ⟨ma, h1, h⟩ := h
        replace h := Option.bind_eq_some_iff.mp h; obtain ⟨mb, h2, h⟩ := h
        cases ‹PySem.BoolOp› with
        | And => cases h; exact e_and g (S.e g ho _ _ h1) (S.e g ho _ _ h2)
        | Or => cases h; exact e_or g (S.e g ho _ _ h1) (S.e g ho _ _ h2)
      · cases h
    · split at h
      · split at h
        · rename_i hx
          obtain ⟨p, rfl, t1, t2, t3⟩ := tabName_ok hx
          replace h := Option.bind_eq_some_iff.mp h; obtain ⟨ng, h0, h⟩ := h
          obtain ⟨ma, h1, rfl⟩ := Option.map_eq_some_iff.mp h
          rw [inOf_ok h0]
          exact e_tin g t3 t2 (nDbg_ok t1) (S.e g ho _ _ h1)
        split at h
        · replace h := Option.bind_eq_some_iff.mp h; obtain ⟨ng, h0, h⟩ := h
          replace h := Option.bind_eq_some_iff.mp h; obtain ⟨ma, h1, h⟩ := h
          replace h := Option.bind_eq_some_iff.mp h; obtain ⟨l, h2, h⟩ := h
          replace h := gd_some h; obtain ⟨h3, h⟩ := h
          cases h
          rw [inOf_ok h0]
          exact e_inl g (S.e g ho _ _ h1) (S.l g ho _ _ h2) h3
        · replace h := Option.bind_eq_some_iff.mp h; obtain ⟨ma, h1, h⟩ := h
          replace h := Option.bind_eq_some_iff.mp h; obtain ⟨mb, h2, h⟩ := h
          replace h := gd_some h; obtain ⟨h3, h⟩ := h
          cases h
          exact e_cmpO g (S.e g ho _ _ h1) (S.e g ho _ _ h2) h3
      · replace h := Option.bind_eq_some_iff.mp h; obtain ⟨ma, h1, h⟩ := h
        replace h := Option.bind_eq_some_iff.mp h; obtain ⟨mb, h2, h⟩ := h
        replace h := Option.bind_eq_some_iff.mp h; obtain ⟨mc, h3, h⟩ := h
        replace h := gd_some h; obtain ⟨h4, h⟩ := h
        cases h
        exact e_chainO g (S.e g ho _ _ h1) (S.e g ho _ _ h2) (S.e g ho _ _ h3) h4
      · cases h
    · replace h := Option.bind_eq_some_iff.mp h; obtain ⟨mc, h1, h⟩ := h
      replace h := Option.bind_eq_some_iff.mp h; obtain ⟨ma, h2, h⟩ := h
      replace h := Option.bind_eq_some_iff.mp h; obtain ⟨mb, h3, h⟩ := h
      cases h
      exact e_ite g (S.q g ho _ _ h1).1 (S.e g ho _ _ h2) (S.e g ho _ _ h3)
    · split at h
      · obtain ⟨ms, h1, rfl⟩ := Option.map_eq_some_iff.mp h
        exact e_tup (S.es g ho _ _ h1)
      · obtain ⟨ms, h1, rfl⟩ := Option.map_eq_some_iff.mp h
        exact e_tupx (xs_ok g (fun e m h => S.e g ho e m h) h1)
    · split at h
      · rename_i hz
        obtain ⟨z1, z2⟩ := and2 hz
        rw [List.isEmpty_iff.mp z1, List.isEmpty_iff.mp z2]
        cases h
        exact e_dic0
      replace h := Option.bind_eq_some_iff.mp h; obtain ⟨ms, h1, h⟩ := h
      replace h := gd_some h; obtain ⟨h2, h⟩ := h
      cases h
      obtain ⟨h2, h7⟩ := and2 h2
      obtain ⟨h2, h6⟩ := and2 h2
      obtain ⟨h2, h5⟩ := and2 h2
      obtain ⟨h3, h4⟩ := and2 h2
      exact e_dic g (S.p g ho _ _ _ _ h1) h3 (of_decide_eq_true h4) (fun z => by rw [z] at h5; cases h5) (of_decide_eq_true h6) (of_decide_eq_true h7)
    · split at h
      · split at h
        · split at h
          · replace h := Option.bind_eq_some_iff.mp h; obtain ⟨mk, h1, h⟩ := h
            replace h := gd_some h; obtain ⟨h2, h⟩ := h
            obtain ⟨ma, h3, rfl⟩ := Option.map_eq_some_iff.mp h
            obtain rfl := isNeg1_ok h2
            exact e_rev g (S.e g ho _ _ h3) (S.e g ho _ _ h1)
          · cases h
        replace h := gd_some h; obtain ⟨h1, h⟩ := h
        replace h := Option.bind_eq_some_iff.mp h; obtain ⟨ma, h2, h⟩ := h
        replace h := Option.bind_eq_some_iff.mp h; obtain ⟨ml, h3, h⟩ := h
        replace h := Option.bind_eq_some_iff.mp h; obtain ⟨mh, h4, h⟩ := h
        cases h
        rw [isSome_none h1]
        exact e_sl g (S.e g ho _ _ h2) (S.eo g ho _ _ h3) (S.eo g ho _ _ h4)
      · replace h := gd_some h; obtain ⟨h1, h⟩ := h
        split at h
        · rename_i hx
          obtain ⟨p, rfl, t1, t2, t3⟩ := tabName_ok hx
          obtain ⟨mi, h3, rfl⟩ := Option.map_eq_some_iff.mp h
          exact e_tget g t3 t2 (nDbg_ok t1) (S.e g ho _ _ h3) h1
        split at h
        · replace h := Option.bind_eq_some_iff.mp h; obtain ⟨ma, h2, h⟩ := h
          replace h := Option.bind_eq_some_iff.mp h; obtain ⟨mi, h3, h⟩ := h
          cases h
          exact e_ixl g (S.l g ho _ _ h2) (S.e g ho _ _ h3) h1
        · replace h := Option.bind_eq_some_iff.mp h; obtain ⟨ma, h2, h⟩ := h
          replace h := Option.bind_eq_some_iff.mp h; obtain ⟨mi, h3, h⟩ := h
          cases h
          exact e_ix g (S.e g ho _ _ h2) (S.e g ho _ _ h3) h1
    · rename_i f es kw cp
      replace h := gd_some h; obtain ⟨h0, h⟩ := h
      obtain ⟨hk, hst⟩ := and2 h0
      have hkw : kw = [] := by cases kw <;> first | rfl | cases hk
      subst hkw
      split at h
      · rename_i x p
        split at h
        · rename_i hv
          replace h := gd_some h; obtain ⟨h1, h⟩ := h
          obtain ⟨h1, h5⟩ := and2 h1
          obtain ⟨hd, hc2⟩ := and2 h1
          obtain ⟨i, hi, h⟩ := Option.bind_eq_some_iff.mp h
          obtain ⟨ms, h2, rfl⟩ := Option.map_eq_some_iff.mp h
          cases es with
          | nil => cases h5
          | cons a es => exact e_callv g (ixOf_ok hi) hv (nDbg_ok hd) (nCld_ok hc2) (S.es g ho _ _ h2) hst
        replace h := gd_some h; obtain ⟨h1, h⟩ := h
        obtain ⟨hd, hg⟩ := and2 h1
        split at h
        · rename_i i k hx
          replace h := Option.bind_eq_some_iff.mp h; obtain ⟨ms, h2, h⟩ := h
          replace h := gd_some h; obtain ⟨h3, h⟩ := h
          cases h
          have hl := of_decide_eq_true h3
          cases es with
          | nil =>
            cases n with
            | zero => cases h2
            | succ n =>
              unfold cEs at h2
              cases h2
              subst hl
              exact e_call0 g hx hg (nDbg_ok hd)
          | cons a es => exact e_call g hx hg (S.es g ho _ _ h2) hl hst (nDbg_ok hd)
        · rename_i c hx
          split at h
          · cases h
            exact e_newx g hx hg (nDbg_ok hd)
          · cases h
        · rename_i hx
          split at h
          · rename_i a
            have hna : notStar a = true := by simpa using hst
            split at h
            · replace h := Option.bind_eq_some_iff.mp h; obtain ⟨b, h2, h⟩ := h
              replace h := Option.bind_eq_some_iff.mp h; obtain ⟨l, h3, h⟩ := h
              cases h
              have ex := bilOf_ok h2
              subst ex
              exact e_bil g (S.l g ho _ _ h3) hna hg hx
            · replace h := Option.bind_eq_some_iff.mp h; obtain ⟨b, h2, h⟩ := h
              replace h := Option.bind_eq_some_iff.mp h; obtain ⟨ma, h3, h⟩ := h
              cases h
              have ex := biOf_ok h2
              subst ex
              exact e_bi g ho (S.e g ho _ _ h3) hna hg hx
          · rename_i a b
            have hna : notStar a = true := (and2 (by simpa only [List.all_cons] using hst)).1
            split at h
            · rename_i ex
              split at h
              · rename_i c p2
                replace h := gd_some h; obtain ⟨h4, h⟩ := h
                replace h := Option.bind_eq_some_iff.mp h; obtain ⟨cl, h5, h⟩ := h
                replace h := Option.bind_eq_some_iff.mp h; obtain ⟨ma, h6, h⟩ := h
                cases h
                subst ex
                obtain ⟨ec, hno⟩ := clOf_ok h5
                subst ec
                obtain ⟨hb1, hb2⟩ := bltB_ok h4
                exact e_isi g (S.e g ho _ _ h6) hna hno hg hx hb1 hb2
              · replace h := Option.bind_eq_some_iff.mp h; obtain ⟨cl, h5, h⟩ := h
                obtain ⟨ma, h6, rfl⟩ := Option.map_eq_some_iff.mp h
                subst ex
                exact e_isis g (S.e g ho _ _ h6) hna h5 hg hx
              · cases h
            · replace h := Option.bind_eq_some_iff.mp h; obtain ⟨f, h5, h⟩ := h
              replace h := Option.bind_eq_some_iff.mp h; obtain ⟨ma, h6, h⟩ := h
              replace h := Option.bind_eq_some_iff.mp h; obtain ⟨mb, h7, h⟩ := h
              cases h
              have ex := bnOf_ok h5
              subst ex
              have hnb : notStar b = true := by
                have := (and2 (by simpa only [List.all_cons] using hst)).2
                simpa using this
              exact e_bin g (S.e g ho _ _ h6) (S.e g ho _ _ h7) hna hnb hg hx
          · cases h
        · cases h
      · rename_i o mm ap
        replace h := gd_some h; obtain ⟨h1, h⟩ := h
        obtain ⟨hc, hl⟩ := and2 h1
        split at h
        · rename_i md hmd
          replace h := Option.bind_eq_some_iff.mp h; obtain ⟨mo, h2, h⟩ := h
          replace h := Option.bind_eq_some_iff.mp h; obtain ⟨ms, h3, h⟩ := h
          replace h := gd_some h; obtain ⟨h4, h⟩ := h
          cases h
          have ex := mdOf_ok hmd
          subst ex
          refine e_mtd g (S.e g ho _ _ h2) (S.es g ho _ _ h3) (fun z => ?_) hst (of_decide_eq_true h4) hc hl
          subst z
          cases n with
          | zero => cases h3
          | succ n =>
            unfold cEs at h3
            cases h3
            rfl
        · split at h
          · replace h := Option.bind_eq_some_iff.mp h; obtain ⟨b, h2, h⟩ := h
            replace h := Option.bind_eq_some_iff.mp h; obtain ⟨mo, h3, h⟩ := h
            cases h
            have ex := mtOf_ok h2
            subst ex
            exact e_mt g (S.e g ho _ _ h3) hc hl
          · rename_i a
            replace h := gd_some h; obtain ⟨h2, h⟩ := h
            replace h := Option.bind_eq_some_iff.mp h; obtain ⟨mo, h3, h⟩ := h
            have ex := of_decide_eq_true h2
            subst ex
            split at h
            · replace h := Option.bind_eq_some_iff.mp h; obtain ⟨l, h4, h⟩ := h
              cases h
              exact e_join g (S.e g ho _ _ h3) (S.l g ho _ _ h4) hc hl (by simpa using hst)
            · replace h := Option.bind_eq_some_iff.mp h; obtain ⟨ma, h4, h⟩ := h
              cases h
              exact e_joinv g (S.e g ho _ _ h3) (S.e g ho _ _ h4) hc hl (by simpa using hst)
          · cases h
      · cases h
    · cases h
end
end Mi
end MiRun13S

section MiRun14S
set_option Elab.async false
set_option linter.all false
set_option maxRecDepth 100000
namespace Mi
open PySem L2
section
variable {X : Cx} {G : Gs} {W : WX} {cf : Cf} {ct : Ct} {lv : Nat}
theorem snd_q (n : Nat) (S : Snd n) (g : Good X G W cf ct lv) (ho : ∀ v M z, cf.repr v M = some z → okS z) (e : Expr) (m : E) (h : cQ (n + 1) ct e = some m) : PT X e (tT G W cf m) ∧ ∀ o vs p, e = .BoolOp o vs p → PW X e (tT G W cf m) := by
  unfold cQ at h
  split at h
  · replace h := Option.map_eq_some_iff.mp h; obtain ⟨ma, h1, rfl⟩ := h
    exact ⟨t_not g (S.q g ho _ _ h1).1, fun o vs p z => by cases z⟩
  · rename_i o vs p
    have key : PW X (.BoolOp o vs p) (tT G W cf m) := by
      split at h
      · have q := (S.q g ho _ _ h).1
        cases ‹PySem.BoolOp› with
        | And => exact pw_and1 q
        | Or => exact pw_or1 q
      · replace h := Option.bind_eq_some_iff.mp h; obtain ⟨ma, h1, h⟩ := h
        replace h := Option.bind_eq_some_iff.mp h; obtain ⟨mb, h2, h⟩ := h
        cases ‹PySem.BoolOp› with
        | And => cases h; exact t_and g (S.q g ho _ _ h1).1 ((S.q g ho _ _ h2).2 _ _ _ rfl)
        | Or => cases h; exact t_or g (S.q g ho _ _ h1).1 ((S.q g ho _ _ h2).2 _ _ _ rfl)
      · cases h
    exact ⟨key.pt, fun _ _ _ _ => key⟩
  · refine ⟨?_, fun o vs p z => by cases z⟩
    split at h
    · split at h
      · rename_i hx
        obtain ⟨p, rfl, t1, t2, t3⟩ := tabName_ok hx
        replace h := Option.bind_eq_some_iff.mp h; obtain ⟨ng, h0, h⟩ := h
        obtain ⟨ma, h1, rfl⟩ := Option.map_eq_some_iff.mp h
        rw [inOf_ok h0]
        exact t_tin g t3 t2 (nDbg_ok t1) (S.e g ho _ _ h1)
      split at h
      · replace h := Option.bind_eq_some_iff.mp h; obtain ⟨ng, h0, h⟩ := h
        replace h := Option.bind_eq_some_iff.mp h; obtain ⟨ma, h1, h⟩ := h
        replace h := Option.bind_eq_some_iff.mp h; obtain ⟨l, h2, h⟩ := h
        replace h := gd_some h; obtain ⟨h3, h⟩ := h
        cases h
        rw [inOf_ok h0]
        exact t_inl g (S.e g ho _ _ h1) (S.l g ho _ _ h2) h3
      · replace h := Option.bind_eq_some_iff.mp h; obtain ⟨ma, h1, h⟩ := h
        replace h := Option.bind_eq_some_iff.mp h; obtain ⟨mb, h2, h⟩ := h
        replace h := gd_some h; obtain ⟨h3, h⟩ := h
        cases h
        exact t_cmpO g (S.e g ho _ _ h1) (S.e g ho _ _ h2) h3
    · replace h := Option.bind_eq_some_iff.mp h; obtain ⟨ma, h1, h⟩ := h
      replace h := Option.bind_eq_some_iff.mp h; obtain ⟨mb, h2, h⟩ := h
      replace h := Option.bind_eq_some_iff.mp h; obtain ⟨mc, h3, h⟩ := h
      replace h := gd_some h; obtain ⟨h4, h⟩ := h
      cases h
      exact t_chainO g (S.e g ho _ _ h1) (S.e g ho _ _ h2) (S.e g ho _ _ h3) h4
    · cases h
  · replace h := gd_some h; obtain ⟨h1, h⟩ := h
    exact ⟨pt_of g (S.e g ho _ _ h) h1, fun o vs p z => by subst z; cases h1⟩
theorem snd_es (n : Nat) (S : Snd n) (g : Good X G W cf ct lv) (ho : ∀ v M z, cf.repr v M = some z → okS z) (e : List Expr) (m : Es) (h : cEs (n + 1) ct e = some m) : PA X e (tEs G W cf m) := by
  unfold cEs at h
  split at h
  · cases h; exact es_nil
  · replace h := gd_some h; obtain ⟨h1, h⟩ := h
    replace h := Option.bind_eq_some_iff.mp h; obtain ⟨ma, h2, h⟩ := h
    replace h := Option.bind_eq_some_iff.mp h; obtain ⟨mb, h3, h⟩ := h
    cases h
    exact es_cons (S.e g ho _ _ h2) (S.es g ho _ _ h3) h1
theorem snd_eo (n : Nat) (S : Snd n) (g : Good X G W cf ct lv) (ho : ∀ v M z, cf.repr v M = some z → okS z) (e : Option Expr) (m : Eo) (h : cEo (n + 1) ct e = some m) : PO X e (tEo G W cf m) := by
  unfold cEo at h
  split at h
  · cases h; exact o_none
  · replace h := Option.map_eq_some_iff.mp h; obtain ⟨ma, h1, rfl⟩ := h
    exact o_some (S.e g ho _ _ h1)
theorem snd_p (n : Nat) (S : Snd n) (g : Good X G W cf ct lv) (ho : ∀ v M z, cf.repr v M = some z → okS z) (pos : Pos) (ks : List (Option Expr)) (vs : List Expr) (m : List (E × E)) (h : cP (n + 1) ct ks vs = some m) : PPs X pos ks vs (trsOf G W cf m) := by
  unfold cP at h
  split at h
  · cases h; exact pps_nil
  · replace h := Option.bind_eq_some_iff.mp h; obtain ⟨mk, h1, h⟩ := h
    replace h := Option.bind_eq_some_iff.mp h; obtain ⟨mv, h2, h⟩ := h
    replace h := Option.bind_eq_some_iff.mp h; obtain ⟨mr, h3, h⟩ := h
    cases h
    exact pps_cons (S.e g ho _ _ h1) (S.e g ho _ _ h2) (S.p g ho _ _ _ _ h3)
  · cases h
theorem notSet_fold {e : Expr} {env : Env} (h : notSet e = true) : ∀ x, foldedSetIterable e env x = pure x := by
  intro x
  cases e <;> first | rfl | cases h
/-- what is known of a comprehension that is read -/
structure LcOk (X : Cx) (G : Gs) (W : WX) (cf : Cf) (ct : Ct) (elt tg iter : Expr) (ifs : List Expr) (scope : Scope) (l : L) (src : Src) (t : Tg) (cs : Es) (e : E) : Prop where
  l : l = .comp ((ownOf ct scope).map (·.2)) t src cs e
  it : PI X tg iter (tS G W cf src)
  ok : blkC ct.N ct.sc scope (ownOf ct scope) = true
  sl : t.slots.all (fun i => ((ownOf ct scope).map (·.2)).contains i) = true
  pg : ∀ (s : Shared) (H : Hp) (C : Addr) (cl : List (Str × Addr)) (fp : List Addr), PG (X.blk s H scope (compEnvC scope cl C X.env) fp) tg (gT G t)
  pt : ∀ (s : Shared) (H : Hp) (C : Addr) (cl : List (Str × Addr)) (fp : List Addr), PTs (X.blk s H scope (compEnvC scope cl C X.env) fp) ifs (tTs G W0 cf cs)
  pe : ∀ (s : Shared) (H : Hp) (C : Addr) (cl : List (Str × Addr)) (fp : List Addr), PE (X.blk s H scope (compEnvC scope cl C X.env) fp) elt (tE G W0 cf e)
  fd : ∀ x, foldedSetIterable iter X.env x = pure x
theorem lc_get (n : Nat) (S : Snd n) (g : Good X G W cf ct lv) (ho : ∀ v M z, cf.repr v M = some z → okS z) {elt tg iter : Expr} {ifs : List Expr} {scope : Scope} {a : Int} {m : L} {pos : Pos} (h : cL (n + 1) ct (.ListComp elt [⟨tg, iter, ifs, a⟩] scope pos) = some m) :
    a = 0 ∧ ∃ src t cs e, LcOk X G W cf ct elt tg iter ifs scope m src t cs e := by
  unfold cL at h
  replace h := Option.bind_eq_some_iff.mp h; obtain ⟨src, h1, h⟩ := h
  replace h := Option.bind_eq_some_iff.mp h; obtain ⟨t, h2, h⟩ := h
  replace h := Option.bind_eq_some_iff.mp h; obtain ⟨cs, h3, h⟩ := h
  replace h := Option.bind_eq_some_iff.mp h; obtain ⟨e, h4, h⟩ := h
  replace h := gd_some h; obtain ⟨h5, h⟩ := h
  cases h
  obtain ⟨h5, h9⟩ := and2 h5
  obtain ⟨h5, h8⟩ := and2 h5
  obtain ⟨h6, h7⟩ := and2 h5
  refine ⟨of_decide_eq_true h6, src, t, cs, e, rfl, S.s g ho _ _ _ h1, h8, h9, fun s H C cl fp => ?_, fun s H C cl fp => ?_, fun s H C cl fp => ?_, notSet_fold h7⟩
  · exact tgt_ok (g.blk s H scope cl C fp) h2
  · exact S.i (g.blk s H scope cl C fp) ho _ _ h3
  · exact S.e (g.blk s H scope cl C fp) ho _ _ h4
theorem snd_l (n : Nat) (S : Snd n) (g : Good X G W cf ct lv) (ho : ∀ v M z, cf.repr v M = some z → okS z) (e : Expr) (m : L) (h : cL (n + 1) ct e = some m) : PE X e (tL G W cf m) := by
  have h0 := h
  unfold cL at h
  split at h
  · replace h := Option.map_eq_some_iff.mp h; obtain ⟨ms, h1, rfl⟩ := h
    exact l_disp (S.es g ho _ _ h1)
  · split at h
    · split at h
      · rename_i hx
        subst hx
        replace h := gd_some h; obtain ⟨h1, h⟩ := h
        obtain ⟨ma, h2, rfl⟩ := Option.map_eq_some_iff.mp h
        obtain ⟨h1, h3⟩ := and2 h1
        obtain ⟨b1, b2⟩ := bltB_ok h1
        exact l_srt g (S.e g ho _ _ h2) h3 b1 b2
      replace h := gd_some h; obtain ⟨h1, h⟩ := h
      obtain ⟨h1, h3⟩ := and2 h1
      obtain ⟨h4, h5⟩ := and2 h1
      have ex := of_decide_eq_true h4
      subst ex
      obtain ⟨b1, b2⟩ := bltB_ok h5
      split at h
      · split at h
        · rename_i hy
          subst hy
          replace h := gd_some h; obtain ⟨g1, h⟩ := h
          obtain ⟨mb, h6, h⟩ := Option.bind_eq_some_iff.mp h
          obtain ⟨mc, h7, rfl⟩ := Option.map_eq_some_iff.mp h
          obtain ⟨g1, g4⟩ := and2 g1
          obtain ⟨g2, g3⟩ := and2 g1
          obtain ⟨d1, d2⟩ := bltB_ok g2
          exact l_rng2 g (S.e g ho _ _ h6) (S.e g ho _ _ h7) g3 g4 d1 d2 b1 b2
        · replace h := Option.map_eq_some_iff.mp h; obtain ⟨ma, h2, rfl⟩ := h
          exact l_list g (S.e g ho _ _ h2) h3 b1 b2
      · replace h := Option.map_eq_some_iff.mp h; obtain ⟨ma, h2, rfl⟩ := h
        exact l_list g (S.e g ho _ _ h2) h3 b1 b2
    · cases h
  · split at h
    · obtain ⟨rfl, src, t, cs, e, k⟩ := lc_get n S g ho h0
      rw [k.l]
      exact l_comp g k.it k.ok k.sl k.pg k.pt k.pe k.fd
    · cases h
  · cases h
theorem snd_s (n : Nat) (S : Snd n) (g : Good X G W cf ct lv) (ho : ∀ v M z, cf.repr v M = some z → okS z) (tg e : Expr) (m : Src) (h : cS (n + 1) ct tg e = some m) : PI X tg e (tS G W cf m) := by
  unfold cS at h
  split at h
  · replace h := Option.map_eq_some_iff.mp h; obtain ⟨ms, h1, rfl⟩ := h
    exact s_fresh g (S.l g ho _ _ h1)
  · rename_i hnl
    clear hnl
    split at h
    · split at h
      · split at h
        · rename_i hx
          subst hx
          replace h := gd_some h; obtain ⟨h1, h⟩ := h
          replace h := Option.map_eq_some_iff.mp h; obtain ⟨ma, h2, rfl⟩ := h
          obtain ⟨h3, h4⟩ := and2 h1
          obtain ⟨b1, b2⟩ := bltB_ok h3
          exact s_rng g (S.e g ho _ _ h2) h4 b1 b2
        · replace h := Option.map_eq_some_iff.mp h; obtain ⟨ma, h2, rfl⟩ := h
          exact s_seq g (S.e g ho _ _ h2)
      · split at h
        · rename_i hx
          subst hx
          replace h := gd_some h; obtain ⟨h1, h⟩ := h
          obtain ⟨ma, h2, h⟩ := Option.bind_eq_some_iff.mp h
          obtain ⟨mb, h3, rfl⟩ := Option.map_eq_some_iff.mp h
          obtain ⟨h1, h5⟩ := and2 h1
          obtain ⟨h1, h4⟩ := and2 h1
          obtain ⟨b1, b2⟩ := bltB_ok h1
          exact s_rng2 g (S.e g ho _ _ h2) (S.e g ho _ _ h3) h4 h5 b1 b2
        · split at h
          · rename_i hx
            subst hx
            replace h := gd_some h; obtain ⟨h1, h⟩ := h
            obtain ⟨ma, h2, h⟩ := Option.bind_eq_some_iff.mp h
            obtain ⟨mb, h3, rfl⟩ := Option.map_eq_some_iff.mp h
            obtain ⟨h1, h6⟩ := and2 h1
            obtain ⟨h1, h5⟩ := and2 h1
            obtain ⟨h1, h4⟩ := and2 h1
            obtain ⟨b1, b2⟩ := bltB_ok h1
            cases tg with
            | Tuple elts kk tpos => exact s_zip g (S.e g ho _ _ h2) (S.e g ho _ _ h3) h4 h5 b1 b2
            | _ => cases h6
          · replace h := Option.map_eq_some_iff.mp h; obtain ⟨ma, h2, rfl⟩ := h
            exact s_seq g (S.e g ho _ _ h2)
      · replace h := Option.map_eq_some_iff.mp h; obtain ⟨ma, h2, rfl⟩ := h
        exact s_seq g (S.e g ho _ _ h2)
    · replace h := Option.map_eq_some_iff.mp h; obtain ⟨ma, h2, rfl⟩ := h
      exact s_seq g (S.e g ho _ _ h2)
theorem snd_i (n : Nat) (S : Snd n) (g : Good X G W cf ct lv) (ho : ∀ v M z, cf.repr v M = some z → okS z) (e : List Expr) (m : Es) (h : cI (n + 1) ct e = some m) : PTs X e (tTs G W cf m) := by
  unfold cI at h
  split at h
  · cases h; exact ts_nil g
  · replace h := Option.map_eq_some_iff.mp h; obtain ⟨ma, h2, rfl⟩ := h
    exact ts_one g (S.q g ho _ _ h2).1
  · cases h
end
theorem snd : ∀ n, Snd n
  | 0 => by
    constructor
    · intro X G W cf ct lv g ho e m h; unfold cE at h; cases h
    · intro X G W cf ct lv g ho e m h; unfold cQ at h; cases h
    · intro X G W cf ct lv g ho e m h; unfold cEs at h; cases h
    · intro X G W cf ct lv g ho e m h; unfold cEo at h; cases h
    · intro X G W cf ct lv g ho pos ks vs m h; unfold cP at h; cases h
    · intro X G W cf ct lv g ho e m h; unfold cL at h; cases h
    · intro X G W cf ct lv g ho tg e m h; unfold cS at h; cases h
    · intro X G W cf ct lv g ho e m h; unfold cI at h; cases h
  | n + 1 => ⟨fun g ho => snd_e n (snd n) g ho, fun g ho => snd_q n (snd n) g ho, fun g ho => snd_es n (snd n) g ho, fun g ho => snd_eo n (snd n) g ho, fun g ho => snd_p n (snd n) g ho, fun g ho => snd_l n (snd n) g ho, fun g ho => snd_s n (snd n) g ho, fun g ho => snd_i n (snd n) g ho⟩
end Mi
end MiRun14S

section MiRun15S
set_option Elab.async false
set_option linter.all false
set_option maxRecDepth 100000
namespace Mi
open PySem L2
/-- what a comprehension's name must be to be stored at its end -/
def lcNameB (ct : Ct) (scope : Scope) (y : Str) (l1 l2 : Nat) : Bool := (match ct.sc.kind with | .function => true | _ => false) && isLocal ct y && (l1 == l2) && !(scope.names.any fun (n, k) => n == y && (k == .local || k == .cell))
mutual
def kE : Nat → Expr → Option E
  | 0, _ => none
  | n + 1, e => match e with
    | .Constant c _ _ => cCon c
    | .Tuple es _ _ => (kEs n es).map .tup
    | _ => none
def kEs : Nat → List Expr → Option Es
  | 0, _ => none
  | n + 1, es => match es with
    | [] => some .nil
    | e :: r => gd (notStar e) ((kE n e).bind fun m => (kEs n r).bind fun ms => some (.cons m ms))
end
/-- what an except suite may do: one row -/
def kSt (n : Nat) (ct : Ct) (s : Stmt) : Option S := match s with
  | .Assign [.Name x _] e _ => gd (stoB ct x && notLc e) ((ixOf ct.N x).bind fun i => (kE n e).map (.set i))
  | .Return (some e) _ => (kE n e).map .ret
  | _ => none
def cHs (n : Nat) (ct : Ct) : List ExceptHandler → Option Hs
  | [] => some .nil
  | h :: r => match h with
    | .ExceptHandler (some (.Name x _)) none [s] _ => match ct.gl x with
      | some (.exc c) => gd (nDbg x && glB ct.sc x) ((kSt n ct s).bind fun m => (cHs n ct r).map fun hs => .cons c (.cons m .nil) hs)
      | _ => none
    | _ => none
mutual
def cSt : Nat → Ct → Stmt → Option S
  | 0, _, _ => none
  | n + 1, ct, s => match s with
    | .Assign ts e _ => match ts with
      | [.Name x p] => match e with
        | .ListComp elt gs scope q => match gs with
          | [⟨tg, iter, ifs, a⟩] => gd (lcNameB ct scope x p.line q.line) ((ixOf ct.N x).bind fun i => (cL (n + 1) ct (.ListComp elt [⟨tg, iter, ifs, a⟩] scope q)).map fun l => .set i (.lst l))
          | _ => none
        | _ => gd (stoB ct x && notLc e) ((ixOf ct.N x).bind fun i => (cE n ct e).map (.set i))
      | [.Tuple es k p] => match e with
        | .Tuple vs k2 p2 => match es, vs with
          | [.Name x px, .Name y py], [a, b] => gd (parB ct x y px py a b) ((ixOf ct.N x).bind fun i => (ixOf ct.N y).bind fun j => (cE n ct a).bind fun ma => (cE n ct b).map fun mb => .par i j ma mb)
          | [.Name x px, .Name y py, .Name z pz], [a, b, c] => gd (parB3 ct x y z px py pz a b c) ((ixOf ct.N x).bind fun i => (ixOf ct.N y).bind fun j => (ixOf ct.N z).bind fun k => (cE n ct a).bind fun ma => (cE n ct b).bind fun mb => (cE n ct c).map fun mc => .par3 i j k ma mb mc)
          | _, _ => none
        | _ => gd (notLc e && notTup e) ((namesAt ct es).bind fun is => (cE n ct e).map (.unp is))
      | [.Subscript o i p] => match i with
        | .Subscript a (.Slice lo hi none _) _ => gd (notLc e && notTup e) ((cE n ct o).bind fun mo => (cE n ct a).bind fun ma => (cEo n ct lo).bind fun ml => (cEo n ct hi).bind fun mh => (cE n ct e).map (.sixk mo ma ml mh))
        | _ => gd (notLc e && notTup e && notSlice i) ((cE n ct o).bind fun mo => (cE n ct i).bind fun mi => (cE n ct e).map (.six mo mi))
      | _ => none
    | .Expr e _ => match e with
      | .Constant (.str _) _ _ => some .pass
      | _ => gd (notLc e) ((cE n ct e).map .expr)
    | .Return o _ => match o with
      | some e => (cE n ct e).map .ret
      | none => some .retN
    | .If c a b _ => (cQ n ct c).bind fun mc => (cSs n ct a).bind fun ma => (cSs n ct b).map (.ite mc ma)
    | .For tg iter body orelse _ => gd (orelse.isEmpty && notSet iter) ((cS n ct tg iter).bind fun src => (cTg ct tg).bind fun t => (cSs n ct body).map (.loop t src))
    | .While c body orelse _ => gd orelse.isEmpty ((cQ n ct c).bind fun mc => (cSs n ct body).map (.whl mc))
    | .Break _ => some .brk
    | .Continue _ => some .cnt
    | .Pass _ => some .pass
    | .Raise o none _ => match o with
      | some (.Call (.Name x _) [] [] _) => match ct.gl x with
        | some (.exc c) => gd (nDbg x && glB ct.sc x) (some (.rais c))
        | _ => none
      | _ => none
    | .Try body hs orelse fin _ => gd (orelse.isEmpty && fin.isEmpty && !hs.isEmpty) ((cSs n ct body).bind fun mb => (cHs n ct hs).map (.tri mb))
    | .AugAssign (.Name x _) op e _ => gd (stoB ct x) ((augOf op).bind fun ng => (ixOf ct.N x).bind fun i => (cE n ct e).map (.aug i ng))
    | _ => none
def cSs : Nat → Ct → List Stmt → Option Ss
  | 0, _, _ => none
  | n + 1, ct, ss => match ss with
    | [] => some .nil
    | s :: r => (cSt n ct s).bind fun m => (cSs n ct r).map (.cons m)
end
section
variable {X : Cx} {G : Gs} {W : WX} {cf : Cf} {ct : Ct} {lv : Nat}
theorem st_setLc (g : Good X G W cf ct lv) {i : Nat} {y : Str} {py : Pos} {elt tg iter : Expr} {ifs : List Expr} {scope : Scope} {pos spos : Pos} {l : L} {src : Src} {t : Tg} {cs : Es} {e : E} (hN : ct.N[i]? = some y) (hb : lcNameB ct scope y py.line pos.line = true) (k : LcOk X G W cf ct elt tg iter ifs scope l src t cs e) :
    PS X (.Assign [.Name y py] (.ListComp elt [⟨tg, iter, ifs, 0⟩] scope pos) spos) (tSt G W cf (.set i (.lst l))) := by
  unfold lcNameB at hb
  obtain ⟨hb, h4⟩ := and2 hb
  obtain ⟨hb, h3⟩ := and2 hb
  obtain ⟨h1, h2⟩ := and2 hb
  have hk : X.env.scope.kind = .function := by
    rw [g.sc]
    split at h1
    · assumption
    · cases h1
  have hy : X.env.scope.names.lookup y = some .local := by rw [g.sc]; exact isLocal_ok h2
  have hs : swapsWith (.ListComp elt [⟨tg, iter, ifs, 0⟩] scope pos) (some (.Name y py)) spos.line X.env = pure true := sw_true hk hy h3 (by rwa [Bool.not_eq_true'] at h4)
  refine (ps_setLc g.calm g.nd (by rw [g.N]; exact hN) hy hs k.it (blkOk_by (by rw [g.N, g.sc]; exact k.ok)) k.pg k.pt k.pe k.fd).imp fun D σ H q => ?_
  obtain ⟨ι, τ, M, hs, hr, q⟩ := q
  unfold ex at q
  refine lc_read (tg := tg) (iter := iter) g k.sl ⟨ι, τ, M, hs, hr, ?_⟩
  have q2 : Post G W σ ι H (RV G) (fun x H1 => gName i x σ H1 D.nx) (ev cf (.lst l) τ M) := PostO.on q hs fun v M1 ι1 H1 w _ l1 hr1 r1 q1 => q1 ι1 H1 _ Le.refl hr1 ((hs.mono l1).set r1 i)
  unfold ev at q2
  rw [k.l] at q2
  exact Post.lay q2
theorem nil_of {α : Type} {l : List α} (h : l.isEmpty = true) : l = [] := by cases l <;> first | rfl | cases h
mutual
theorem k_e : ∀ (n : Nat) {X : Cx} {e : Expr} {m : E}, kE n e = some m → PE X e (tE G W cf m)
  | 0, X, e, m, h => by unfold kE at h; cases h
  | n + 1, X, e, m, h => by
    unfold kE at h
    split at h
    · unfold cCon at h
      split at h
      · cases h; exact k_cst pe_non fun _ _ => .non
      · cases h; exact k_cst pe_bl fun _ _ => .bl _
      · cases h; exact k_cst pe_int fun _ _ => .int _
      · rename_i s
        obtain ⟨h1, h2⟩ := gd_some h
        cases h2
        rw [Bool.and_eq_true, decide_eq_true_eq, List.all_eq_true] at h1
        refine k_cst pe_str fun ι H => ?_
        have e : s = toS s.cps.toList := by
          cases s; simp [toS]
        have := VR.str (K := G.K) (ι := ι) (H := H) s.cps.toList ⟨h1.1, fun c hc => of_decide_eq_true (h1.2 c hc)⟩
        rw [← e] at this
        exact this
      · cases h
    · obtain ⟨ms, h1, rfl⟩ := Option.map_eq_some_iff.mp h
      exact e_tup (k_es n h1)
    · cases h
theorem k_es : ∀ (n : Nat) {X : Cx} {es : List Expr} {m : Es}, kEs n es = some m → PA X es (tEs G W cf m)
  | 0, X, e, m, h => by unfold kEs at h; cases h
  | n + 1, X, e, m, h => by
    unfold kEs at h
    split at h
    · cases h; exact es_nil
    · replace h := gd_some h; obtain ⟨h1, h⟩ := h
      replace h := Option.bind_eq_some_iff.mp h; obtain ⟨ma, h2, h⟩ := h
      replace h := Option.bind_eq_some_iff.mp h; obtain ⟨mb, h3, h⟩ := h
      cases h
      exact es_cons (k_e n h2) (k_es n h3) h1
end
theorem k_st (g : Good X G W cf ct lv) {n : Nat} {s : Stmt} {m : S} (h : kSt n ct s = some m) (a : Addr) (pn : List (Addr × PySem.Obj)) : PS (X.suite a pn) s (tSt G W0 cf m) := by
  unfold kSt at h
  split at h
  · replace h := gd_some h; obtain ⟨h1, h⟩ := h
    obtain ⟨h2, h3⟩ := and2 h1
    replace h := Option.bind_eq_some_iff.mp h; obtain ⟨i, h4, h⟩ := h
    obtain ⟨me, h5, rfl⟩ := Option.map_eq_some_iff.mp h
    have st := g.sto h2
    exact k_set (X := X.suite a pn) g.nd (by rw [show (X.suite a pn).N = X.N from rfl, g.N]; exact ixOf_ok h4) st.1 st.2 (k_e n h5) h3
  · obtain ⟨me, h5, rfl⟩ := Option.map_eq_some_iff.mp h
    exact st_ret (k_e n h5)
  · cases h
theorem c_hs (g : Good X G W cf ct lv) {n : Nat} : ∀ {hds : List ExceptHandler} {mh : Hs}, cHs n ct hds = some mh → HsOk X G cf hds mh
  | [], mh, h => by
    unfold cHs at h
    cases h
    exact .nil
  | h0 :: r, mh, h => by
    unfold cHs at h
    split at h
    · split at h
      · rename_i c hx
        replace h := gd_some h; obtain ⟨h1, h⟩ := h
        obtain ⟨h2, h3⟩ := and2 h1
        replace h := Option.bind_eq_some_iff.mp h; obtain ⟨m, h4, h⟩ := h
        obtain ⟨hs, h5, rfl⟩ := Option.map_eq_some_iff.mp h
        exact .cons ⟨glB_ok g.sc h3, nDbg_ok h2, .inl (g.exc _ c hx).mg⟩ (fun a pn => st_cons (k_st g h4 a pn) st_nil) (c_hs g h5)
      · cases h
    · cases h
structure SndS (n : Nat) : Prop where
  s : ∀ {X : Cx} {G : Gs} {W : WX} {cf : Cf} {ct : Ct} {lv : Nat}, Good X G W cf ct lv → (∀ v M z, cf.repr v M = some z → okS z) → PassesOwn (model X.prog X.w) X.A X.env X.xe → Stk X → ∀ e m, cSt n ct e = some m → PS X e (tSt G W cf m)
  ss : ∀ {X : Cx} {G : Gs} {W : WX} {cf : Cf} {ct : Ct} {lv : Nat}, Good X G W cf ct lv → (∀ v M z, cf.repr v M = some z → okS z) → PassesOwn (model X.prog X.w) X.A X.env X.xe → Stk X → ∀ e m, cSs n ct e = some m → PSs X e (tSs G W cf m)
theorem snd_st (n : Nat) (T : SndS n) (g : Good X G W cf ct lv) (ho : ∀ v M z, cf.repr v M = some z → okS z) (hp : PassesOwn (model X.prog X.w) X.A X.env X.xe) (hk : Stk X) (e : Stmt) (m : S) (h : cSt (n + 1) ct e = some m) : PS X e (tSt G W cf m) := by
  have S := snd n
  unfold cSt at h
  split at h
  · split at h
    · split at h
      · split at h
        · replace h := gd_some h; obtain ⟨h1, h⟩ := h
          replace h := Option.bind_eq_some_iff.mp h; obtain ⟨i, h2, h⟩ := h
          replace h := Option.map_eq_some_iff.mp h; obtain ⟨l, h3, rfl⟩ := h
          obtain ⟨rfl, src, t, cs, e, k⟩ := lc_get n S g ho h3
          exact st_setLc g (ixOf_ok h2) h1 k
        · cases h
      · replace h := gd_some h; obtain ⟨h1, h⟩ := h
        replace h := Option.bind_eq_some_iff.mp h; obtain ⟨i, h2, h⟩ := h
        replace h := Option.map_eq_some_iff.mp h; obtain ⟨l, h3, rfl⟩ := h
        obtain ⟨h4, h5⟩ := and2 h1
        exact st_asg g (ixOf_ok h2) h4 (S.e g ho _ _ h3) h5
    · split at h
      · split at h
        · replace h := gd_some h; obtain ⟨h1, h⟩ := h
          replace h := Option.bind_eq_some_iff.mp h; obtain ⟨i, h2, h⟩ := h
          replace h := Option.bind_eq_some_iff.mp h; obtain ⟨j, h3, h⟩ := h
          replace h := Option.bind_eq_some_iff.mp h; obtain ⟨ma, h4, h⟩ := h
          replace h := Option.map_eq_some_iff.mp h; obtain ⟨mb, h5, rfl⟩ := h
          exact st_par g (ixOf_ok h2) (ixOf_ok h3) (S.e g ho _ _ h4) (S.e g ho _ _ h5) h1
        · replace h := gd_some h; obtain ⟨h1, h⟩ := h
          replace h := Option.bind_eq_some_iff.mp h; obtain ⟨i, h2, h⟩ := h
          replace h := Option.bind_eq_some_iff.mp h; obtain ⟨j, h3, h⟩ := h
          replace h := Option.bind_eq_some_iff.mp h; obtain ⟨k, h4, h⟩ := h
          replace h := Option.bind_eq_some_iff.mp h; obtain ⟨ma, h5, h⟩ := h
          replace h := Option.bind_eq_some_iff.mp h; obtain ⟨mb, h6, h⟩ := h
          replace h := Option.map_eq_some_iff.mp h; obtain ⟨mc, h7, rfl⟩ := h
          exact st_par3 g (ixOf_ok h2) (ixOf_ok h3) (ixOf_ok h4) (S.e g ho _ _ h5) (S.e g ho _ _ h6) (S.e g ho _ _ h7) h1
        · cases h
      · replace h := gd_some h; obtain ⟨h1, h⟩ := h
        replace h := Option.bind_eq_some_iff.mp h; obtain ⟨is, h2, h⟩ := h
        replace h := Option.map_eq_some_iff.mp h; obtain ⟨ma, h3, rfl⟩ := h
        obtain ⟨h4, h5⟩ := and2 h1
        exact st_unp g h2 (S.e g ho _ _ h3) h4 h5
    · split at h
      · replace h := gd_some h; obtain ⟨h1, h⟩ := h
        replace h := Option.bind_eq_some_iff.mp h; obtain ⟨mo, h2, h⟩ := h
        replace h := Option.bind_eq_some_iff.mp h; obtain ⟨ma, h3, h⟩ := h
        replace h := Option.bind_eq_some_iff.mp h; obtain ⟨ml, h4, h⟩ := h
        replace h := Option.bind_eq_some_iff.mp h; obtain ⟨mh, h5, h⟩ := h
        replace h := Option.map_eq_some_iff.mp h; obtain ⟨me, h6, rfl⟩ := h
        obtain ⟨h7, h8⟩ := and2 h1
        exact st_sixk g (S.e g ho _ _ h2) (S.e g ho _ _ h3) (S.eo g ho _ _ h4) (S.eo g ho _ _ h5) (S.e g ho _ _ h6) h7 h8
      · replace h := gd_some h; obtain ⟨h1, h⟩ := h
        replace h := Option.bind_eq_some_iff.mp h; obtain ⟨mo, h2, h⟩ := h
        replace h := Option.bind_eq_some_iff.mp h; obtain ⟨mi, h3, h⟩ := h
        replace h := Option.map_eq_some_iff.mp h; obtain ⟨ma, h4, rfl⟩ := h
        obtain ⟨h1, h7⟩ := and2 h1
        obtain ⟨h5, h6⟩ := and2 h1
        exact st_six g (S.e g ho _ _ h2) (S.e g ho _ _ h3) (S.e g ho _ _ h4) h5 h6 h7
    · cases h
  · split at h
    · cases h; exact st_doc
    · replace h := gd_some h; obtain ⟨h1, h⟩ := h
      replace h := Option.map_eq_some_iff.mp h; obtain ⟨ma, h2, rfl⟩ := h
      exact st_expr g (S.e g ho _ _ h2) h1
  · split at h
    · replace h := Option.map_eq_some_iff.mp h; obtain ⟨ma, h2, rfl⟩ := h
      exact st_ret (S.e g ho _ _ h2)
    · cases h; exact st_retN
  · replace h := Option.bind_eq_some_iff.mp h; obtain ⟨mc, h1, h⟩ := h
    replace h := Option.bind_eq_some_iff.mp h; obtain ⟨ma, h2, h⟩ := h
    replace h := Option.map_eq_some_iff.mp h; obtain ⟨mb, h3, rfl⟩ := h
    exact st_if (S.q g ho _ _ h1).1 (T.ss g ho hp hk _ _ h2) (T.ss g ho hp hk _ _ h3)
  · replace h := gd_some h; obtain ⟨h1, h⟩ := h
    replace h := Option.bind_eq_some_iff.mp h; obtain ⟨src, h2, h⟩ := h
    replace h := Option.bind_eq_some_iff.mp h; obtain ⟨t, h3, h⟩ := h
    replace h := Option.map_eq_some_iff.mp h; obtain ⟨mb, h4, rfl⟩ := h
    obtain ⟨h5, h6⟩ := and2 h1
    rw [nil_of h5]
    exact st_for g hp (S.s g ho _ _ _ h2) (tgt_ok g h3) (T.ss g ho hp hk _ _ h4) (notSet_fold h6)
  · replace h := gd_some h; obtain ⟨h1, h⟩ := h
    replace h := Option.bind_eq_some_iff.mp h; obtain ⟨mc, h2, h⟩ := h
    replace h := Option.map_eq_some_iff.mp h; obtain ⟨mb, h4, rfl⟩ := h
    rw [nil_of h1]
    exact st_while g hp (S.q g ho _ _ h2).1 (T.ss g ho hp hk _ _ h4)
  · cases h; exact st_brk
  · cases h; exact st_cnt
  · cases h; exact st_pass
  · split at h
    · split at h
      · rename_i hx
        replace h := gd_some h; obtain ⟨h1, h⟩ := h
        cases h
        obtain ⟨h2, h3⟩ := and2 h1
        exact st_rais g hx h3 (nDbg_ok h2)
      · cases h
    · cases h
  · rename_i body hs orelse fin pos
    replace h := gd_some h; obtain ⟨h1, h⟩ := h
    replace h := Option.bind_eq_some_iff.mp h; obtain ⟨mb, h2, h⟩ := h
    obtain ⟨mh, h3, rfl⟩ := Option.map_eq_some_iff.mp h
    obtain ⟨h4, h5⟩ := and2 h1
    obtain ⟨h6, h7⟩ := and2 h4
    rw [nil_of h6, nil_of h7]
    cases hs with
    | nil => cases h5
    | cons h0 hs => exact st_tri g hk (fun W' pn xe g' hp' => T.ss g' ho hp' hk _ _ h2) (c_hs g h3)
  · replace h := gd_some h; obtain ⟨h1, h⟩ := h
    replace h := Option.bind_eq_some_iff.mp h; obtain ⟨ng, h2, h⟩ := h
    replace h := Option.bind_eq_some_iff.mp h; obtain ⟨i, h3, h⟩ := h
    obtain ⟨ma, h4, rfl⟩ := Option.map_eq_some_iff.mp h
    exact st_aug g (ixOf_ok h3) h1 (S.e g ho _ _ h4) h2
  · cases h
theorem snd_ss (n : Nat) (T : SndS n) (g : Good X G W cf ct lv) (ho : ∀ v M z, cf.repr v M = some z → okS z) (hp : PassesOwn (model X.prog X.w) X.A X.env X.xe) (hk : Stk X) (e : List Stmt) (m : Ss) (h : cSs (n + 1) ct e = some m) : PSs X e (tSs G W cf m) := by
  unfold cSs at h
  split at h
  · cases h; exact st_nil
  · replace h := Option.bind_eq_some_iff.mp h; obtain ⟨ms, h1, h⟩ := h
    replace h := Option.map_eq_some_iff.mp h; obtain ⟨mb, h2, rfl⟩ := h
    exact st_cons (T.s g ho hp hk _ _ h1) (T.ss g ho hp hk _ _ h2)
end
theorem sndS : ∀ n, SndS n
  | 0 => by
    constructor
    · intro X G W cf ct lv g ho hp hk e m h; unfold cSt at h; cases h
    · intro X G W cf ct lv g ho hp hk e m h; unfold cSs at h; cases h
  | n + 1 => ⟨fun g ho hp hk => snd_st n (sndS n) g ho hp hk, fun g ho hp hk => snd_ss n (sndS n) g ho hp hk⟩
end Mi
end MiRun15S

section MiTopS
set_option Elab.async false
set_option linter.all false
set_option maxRecDepth 100000
namespace Mi
open PySem L2
/-! ### what a call leaves -/
mutual
theorem VR.under {K : PySem.W.Frag} {ι : List Addr} {H : Hp} : ∀ {x : Val} {v : V}, VR K ι H x v → below ι.length x = true
  | _, _, .non => rfl
  | _, _, .bl b => rfl
  | _, _, .int i => rfl
  | _, _, .str s h => rfl
  | .tup xs, _, .tup h hs => by simp only [Mi.below]; exact VRs.under hs
  | .frz xs, _, .frz h hs => by simp only [Mi.below]; exact VRs.under hs
  | .fn _, _, .fn _ => rfl
  | .ref n, _, .ref h => by
    simp only [Mi.below]
    obtain ⟨hn, _⟩ := List.getElem?_eq_some_iff.mp h
    exact decide_eq_true hn
theorem VRs.under {K : PySem.W.Frag} {ι : List Addr} {H : Hp} : ∀ {xs : List Val} {vs : List V}, VRs K ι H xs vs → belows ι.length xs = true
  | _, _, .nil => rfl
  | x :: xs, _, .cons h hs => by simp only [Mi.belows]; rw [VR.under h, VRs.under hs]; rfl
end
theorem vr_key {K : PySem.W.Frag} {ι ι' : List Addr} {H H' : Hp} {x : Val} {k : Key} (e : keyOf x = some k) (r : VR K ι' H' x (kV k)) : VR K ι H x (kV k) := by
  cases x with
  | int i => cases e; exact .int i
  | str s =>
    cases e
    have r' : VR K ι' H' (.str s) (.str (toS s)) := r
    cases r' with
    | str _ h => exact .str s h
  | _ => cases e
theorem OR.cut {G : Gs} {ι ι' : List Addr} {H H' : Hp} (l : Le ι H ι' H') {o : Obj} {a : Addr} (h : OR G ι H o a) (h' : OR G ι' H' o a) : OR G ι H' o a := by
  obtain ⟨t, e, _⟩ := l.more
  have et : ι'.take ι.length = ι := by rw [e]; simp
  cases o with
  | lst xs =>
    obtain ⟨vs, _, r⟩ := h
    obtain ⟨ws, e', r'⟩ := h'
    refine ⟨ws, e', ?_⟩
    have := r'.cut (n := ι.length) r.under
    rwa [et] at this
  | dic ks =>
    obtain ⟨vs, _, r⟩ := h
    obtain ⟨ws, e', r'⟩ := h'
    refine ⟨ws, e', ?_⟩
    have key : ∀ {ks : List (Val × Val)} {vs ws : List (Key × V)}, KVs G.K ι H ks vs → KVs G.K ι' H' ks ws → KVs G.K ι H' ks ws := by
      intro ks
      induction ks with
      | nil => intro vs ws r r'; cases r'; exact .nil
      | cons p ks ih =>
        intro vs ws r r'
        cases r with
        | cons q1 q2 => cases r' with
          | cons q3 q4 =>
            refine .cons ⟨⟨q3.1.1, ?_⟩, ?_⟩ (ih q2 q4)
            · have := q3.1.2.cut (n := ι.length) q1.1.2.under
              rwa [et] at this
            · have := q3.2.cut (n := ι.length) q1.2.under
              rwa [et] at this
    exact key r r'
  | dit ks =>
    obtain ⟨vs, _, r⟩ := h
    obtain ⟨ws, e', r'⟩ := h'
    refine ⟨ws, e', ?_⟩
    have key : ∀ {ks : List (List Val × Val)} {vs ws : List (List Key × V)}, TVs G.K ι H ks vs → TVs G.K ι' H' ks ws → TVs G.K ι H' ks ws := by
      intro ks
      induction ks with
      | nil => intro vs ws r r'; cases r'; exact .nil
      | cons p ks ih =>
        intro vs ws r r'
        cases r with
        | cons q1 q2 => cases r' with
          | cons q3 q4 =>
            refine .cons ⟨L2.Paired.mapP q3.1 fun _ _ q => ⟨q.1, vr_key q.1 q.2⟩, ?_⟩ (ih q2 q4)
            have := q3.2.cut (n := ι.length) q1.2.under
            rwa [et] at this
    exact key r r'
  | exv c => exact h'
theorem HR.back {G : Gs} {ι ι' : List Addr} {H H' : Hp} {M M' : Store} (l : Le ι H ι' H') (hr : HR G ι M H) (hr' : HR G ι' M' H') (e : M'.take M.length = M) : HR G ι M H' := by
  refine ⟨hr.len, fun n o a e1 e2 => ?_, hr.inj⟩
  have hn : n < M.length := (List.getElem?_eq_some_iff.mp e1).1
  have e3 : M'[n]? = some o := by
    rw [← List.getElem?_take_of_lt hn, e]; exact e1
  exact OR.cut l (hr.obj n o a e1 e2) (hr'.obj n o a e3 (l.at e2))
theorem Le.back {ι ι' : List Addr} {H H' : Hp} (l : Le ι H ι' H') : Le ι H ι H' := ⟨⟨[], by simp, fun _ h => by simp at h⟩, l.ext, l.dom, l.keep⟩
theorem VR.back {K : PySem.W.Frag} {ι ι' : List Addr} {H H' : Hp} (l : Le ι H ι' H') {x : Val} {v : V} (r : VR K ι' H' x v) {n : Nat} (hn : ι.length = n) (b : Mi.below n x = true) : VR K ι H' x v := by
  obtain ⟨t, e, _⟩ := l.more
  have et : ι'.take n = ι := by rw [e, ← hn]; simp
  have := r.cut b
  rwa [et] at this
theorem back_ok {G : Gs} {ι : List Addr} {H : Hp} {M : Store} {Q : VK} {E : XK} {r : Out} (hr : HR G ι M H) (h : PostC G ι H Q E (back M r)) : PostO G (fun cls d _ H => E cls d H) ι H { nx := fun _ H' => Q .non H', rt := Q } r := by
  cases r with
  | nx τ M' => exact fun ι' H' σ' l hr' _ => h ι' H' .non l hr' .non
  | ret v M' => exact fun ι' H' w l hr' rv => h ι' H' w l hr' rv
  | brk τ M' => exact h.elim
  | cnt τ M' => exact h.elim
  | bad => exact h.elim
  | exc x τ M' => exact fun ι' H' σ' cls d l hr' _ xr => h ι' H' cls d l hr' xr
theorem start_ok {G : Gs} {ι : List Addr} {H : Hp} {d : Def} {N : List Str} {xs : List Val} {vs : List V} (hN : d.slots = N.length) (r : VRs G.K ι H xs vs) : SR G ι H (Mi.start d xs) (L2.start N vs) := by
  unfold Mi.start L2.start
  refine ⟨by simp [hN, r.length], fun i x e => ?_⟩
  by_cases hi : i < xs.length
  · rw [List.getElem?_append_left (by simpa using hi), List.getElem?_map] at e
    have e2 : xs[i]? = some x := by
      cases q : xs[i]? with
      | none => rw [q] at e; cases e
      | some y => rw [q] at e; exact congrArg some (Option.some.inj (Option.some.inj e))
    obtain ⟨v, h1, h2⟩ := r.get e2
    refine ⟨v, ?_, h2⟩
    rw [List.getElem?_append_left (by rw [List.length_map, ← r.length]; exact hi), List.getElem?_map, h1]; rfl
  · rw [List.getElem?_append_right (by simpa using hi), List.getElem?_replicate] at e
    split at e <;> cases e
/-! ### all defs of a program at once -/
/-- one def: its name, its place in the text, the names of its slots, how many are parameters -/
structure DI where
  name : Str
  st : Stmt
  N : List Str
  params : Nat
structure PI0 where
  defs : List DI
  tab : List (Str × GI)
  excs : List Str
  subs : List (Str × Str)
  tabs : List (Str × List (List Nat × Val))
def PI0.sub (p : PI0) (x y : Str) : Bool := p.subs.any fun q => q.1 == x && q.2 == y
def PI0.gx (p : PI0) : Gx := ⟨fun x => p.defs.findIdx? fun d => d.name == x, fun x => (p.tabs.find? fun t => t.1 == x).map (·.2)⟩
def PI0.gl (p : PI0) (x : Str) : Option GI := p.tab.lookup x
def DI.ct (p : PI0) (d : DI) : Ct := ⟨defScope d.st, d.N, p.gl, fun _ => true⟩
def scopeB (N : List Str) (k : Nat) (sc : Scope) : Bool := (match sc.kind with | .function => true | _ => false) && !sc.isCoroutine && !sc.isGenerator && decide N.Nodup && decide (k ≤ N.length) && (N.take k).all (fun x => match sc.names.lookup x with
    | some .local => true
    | some .cell => true
    | _ => false) && sc.names.all fun y => decide (y.2 ≠ .free)
theorem scopeB_ok {N : List Str} {k : Nat} {sc : Scope} (h : scopeB N k sc = true) : FnScope N (N.take k) sc ∧ (N.take k).length = k := by
  unfold scopeB at h
  obtain ⟨h, h7⟩ := and2 h
  obtain ⟨h, h6⟩ := and2 h
  obtain ⟨h, h5⟩ := and2 h
  obtain ⟨h, h4⟩ := and2 h
  obtain ⟨h, h3⟩ := and2 h
  obtain ⟨h1, h2⟩ := and2 h
  have hk : k ≤ N.length := of_decide_eq_true h5
  have hl : (N.take k).length = k := by rw [List.length_take]; omega
  refine ⟨⟨?_, by simpa using h2, by simpa using h3, of_decide_eq_true h4, by rw [hl], fun x hx => ?_, fun y hy => ?_⟩, hl⟩
  · split at h1
    · assumption
    · cases h1
  · have q := List.all_eq_true.mp h6 x hx
    split at q
    · exact .inl (by assumption)
    · exact .inr (by assumption)
    · cases q
  · exact of_decide_eq_true (List.all_eq_true.mp h7 y hy)
end Mi
end MiTopS

section MiTop2S
set_option Elab.async false
set_option linter.all false
set_option maxRecDepth 100000
namespace Mi
open PySem L2
/-- what must hold of a program's module for its defs to keep to the small language -/
structure Ground (P : Program) (w : World) (K : PySem.W.Frag) (mg : Str → Option Value) (base : Heap) (pi : PI0) (Pg : Prog) (G : Gs) (l0 : Nat) : Prop where
  gk : G.K = K
  defs : ∀ (i : Nat) (d : DI), pi.defs[i]? = some d → ∃ (f : Addr) (fd : FuncData) (qual : Str) (kws : List (Str × V)), mg d.name = some (.ref f) ∧ FunD K d.name qual (defArgs d.st) (defBody d.st) (defScope d.st) [] kws f fd ∧ Binds K fd (d.N.take d.params) []
  comp : ∀ (i : Nat) (d : DI), pi.defs[i]? = some d → ∃ fuel ms, Pg.defs[i]? = some ⟨d.params, d.N.length, ms⟩ ∧ cSs fuel (d.ct pi) (defBody d.st) = some ms ∧ scopeB d.N d.params (defScope d.st) = true
  tabf : ∀ x g k, pi.gl x = some (.fn g k) → ∃ d, pi.defs[g]? = some d ∧ d.name = x ∧ d.params = k
  gaf : ∀ (i : Nat) (d : DI), pi.defs[i]? = some d → mg d.name = some (.ref (He.ga K d.name))
  fno : ∀ x g, Pg.eqx.fno x = some g → ∃ d, pi.defs[g]? = some d ∧ d.name = x
  tabs : ∀ x, pi.gl x = some .tab → ∃ kvs, Pg.eqx.tab x = some kvs ∧ mg x = some (.ref (He.ga K x)) ∧ (∃ es n, KDict K w (He.ga K x) es n) ∧
    (∀ s v, (kvs.find? fun p => p.1 == s).map (·.2) = some v → ∃ u w, PySem.W.nsIn K (He.ga K x) (toS s) = some (some u) ∧ RelV w u ∧ ∀ ι H, VR K ι H v w) ∧ ∀ s, ∃ r, PySem.W.nsIn K (He.ga K x) (toS s) = some r ∧ r.isSome = kvs.any fun p => p.1 == s
  con : ∀ x v, pi.gl x = some (.con v) → ∃ u w, mg x = some u ∧ RelV w u ∧ ∀ ι H, VR K ι H v w
  blt : ∀ x, pi.gl x = some .blt → mg x = none
  exc : ∀ x c, pi.gl x = some (.exc c) → mg x = some (.ref (G.cls c)) ∧ (∃ (bmB : List Value) (B newId initId : String), ExcBaseFacts B newId initId bmB ∧ PySem.W.excIn K (G.cls c) bmB newId = true) ∧ PySem.W.keepIn K (.ref (G.cls c)) = true ∧ PySem.W.typeIn K (.ref (G.cls c)) = some (.type "type")
  exm : ∀ c1 c2 : Nat, PySem.W.exmOne K (.ref (G.cls c1)) (.ref (G.cls c2)) = some (Pg.sub c1 c2)
  rep : RepOk G Pg.repr l0
  repS : ∀ v M z, Pg.repr v M = some z → okS z
  exs : ∀ c : Nat, ExcC K (G.cls c) ∧ ∀ T ∈ ["int", "bool", "str", "tuple", "list", "dict"], PySem.W.kitOne K (.ref (G.cls c)) (.type T) = some false
section
variable {P : Program} {w : World} {K : PySem.W.Frag} {mg : Str → Option Value} {base : Heap} {pi : PI0} {Pg : Prog} {G : Gs} {l0 : Nat}
theorem RepOk.mono {rp : Val → Store → Option (List Nat)} {j k : Nat} (h : RepOk G rp j) (l : j ≤ k) : RepOk G rp k := fun X e gd r c => h X e gd (r.mono l) c
theorem all_ok (T : Ground P w K mg base pi Pg G l0) : ∀ (n i : Nat) (d : DI), pi.defs[i]? = some d → ∀ (f : Addr) (fd : FuncData) (qual : Str) (kws : List (Str × V)), FunD K d.name qual (defArgs d.st) (defBody d.st) (defScope d.st) [] kws f fd →
    FnG P w K mg base (n + l0) f fd (d.N.take d.params) (spI G (call Pg n) i d.params)
  | 0, i, d, hd, f, fd, qual, kws, F => by
    obtain ⟨fuel, ms, h1, h2, h3⟩ := T.comp i d hd
    have hl := (scopeB_ok h3).2
    refine ⟨fun vs H Q E h => ?_, fun A outer s H args us vs Q E _ _ _ _ _ h => ?_⟩
    · obtain ⟨ι, M, xs, e, r, _⟩ := h
      rw [hl, ← r.length, e]
    · obtain ⟨ι, M, xs, e, r, hr, q⟩ := h
      exact q.elim
  | n + 1, i, d, hd, f, fd, qual, kws, F => by
    obtain ⟨fuel, ms, h1, h2, h3⟩ := T.comp i d hd
    obtain ⟨S, hl⟩ := scopeB_ok h3
    have e1 : n + 1 + l0 = (n + l0) + 1 := by omega
    rw [e1]
    refine fnG F S (fun vs H Q E h => ?_) (fun cdv A outer s H vs Q E hgd hroom h => ?_)
    · obtain ⟨ι, M, xs, e, r, _⟩ := h
      rw [hl, ← r.length, e]
    · obtain ⟨ι, M, xs, e, r, hr, q⟩ := h
      have good : Good (cxOf (L2.CX P w) P w K mg base d.N qual (defScope d.st) f cdv A outer s H E) G (fun cls d _ H => E cls d H) ⟨call Pg n, Pg.repr, Pg.eqx, Pg.sub⟩ (d.ct pi) (n + l0) :=
        { gk := T.gk
          sc := rfl
          N := rfl
          nd := S.nd
          calm := rfl
          takes := takes_of rfl rfl rfl rfl
          room := hroom
          gds := Around.deep_guards hgd
          fnc := rfl
          fn := fun x g k hx => by
            obtain ⟨d2, hd2, rfl, rfl⟩ := T.tabf x g k hx
            obtain ⟨f2, fd2, q2, k2, m2, F2, B2⟩ := T.defs g d2 hd2
            exact ⟨f2, fd2, _, m2, F2.kp, B2, all_ok T n g d2 hd2 f2 fd2 q2 k2 F2⟩
          gaf := fun x g k hx => by
            obtain ⟨d2, hd2, rfl, rfl⟩ := T.tabf x g k hx
            exact T.gaf g d2 hd2
          fnx := fun x g hx => by
            obtain ⟨d2, hd2, rfl⟩ := T.fno x g hx
            obtain ⟨f2, fd2, q2, k2, m2, F2, B2⟩ := T.defs g d2 hd2
            have e2 := (T.gaf g d2 hd2).symm.trans m2
            cases e2
            refine ⟨d2.params, fd2, _, F2.kp, B2, all_ok T n g d2 hd2 _ fd2 q2 k2 F2, fun zs M hz => ?_⟩
            cases n with
            | zero => rfl
            | succ n =>
              obtain ⟨fuel2, ms2, c1, _, _⟩ := T.comp g d2 hd2
              show (match Pg.defs[g]? with
                | some d => if zs.length = d.params then back M (exs ⟨call Pg n, Pg.repr, Pg.eqx, Pg.sub⟩ d.body (Mi.start d zs) M) else .bad
                | none => .bad) = _
              rw [c1]
              simp only [hz, if_false]
          tabs := fun x hx => by
            obtain ⟨kvs, e1, e2, e3, e4, e5⟩ := T.tabs x hx
            exact ⟨kvs, e1, e2, e3, e4, e5⟩
          con := T.con
          blt := T.blt
          exc := fun x c hx => by
            obtain ⟨m1, m2, m3, m4⟩ := T.exc x c hx
            exact ⟨m1, m2, m3, (T.exs c).1, m4, (T.exs c).2⟩
          exm := T.exm
          rep := T.rep.mono (by omega)
          exs := T.exs }
      refine ⟨tSs G (fun cls d _ H => E cls d H) ⟨call Pg n, Pg.repr, Pg.eqx, Pg.sub⟩ ms, (sndS fuel).ss good T.repS (passes_of rfl) ⟨rfl, rfl⟩ _ _ h2, ι, Mi.start ⟨d.params, d.N.length, ms⟩ xs, M, start_ok rfl r, hr, back_ok hr ?_⟩
      have ec : call Pg (n + 1) i xs M = back M (exs ⟨call Pg n, Pg.repr, Pg.eqx, Pg.sub⟩ ms (Mi.start ⟨d.params, d.N.length, ms⟩ xs) M) := by
        show (match Pg.defs[i]? with
          | some d => if xs.length = d.params then back M (exs ⟨call Pg n, Pg.repr, Pg.eqx, Pg.sub⟩ d.body (Mi.start d xs) M) else .bad
          | none => .bad) = _
        rw [h1]
        simp only [e, if_true]
      rw [ec] at q
      exact q
end
end Mi
end MiTop2S

section MiHeadS
set_option Elab.async false
set_option linter.all false
set_option maxRecDepth 100000
namespace Mi
open PySem L2
/-! ### constants of the module -/
def okB (s : List Nat) : Bool := decide (s.length ≤ LIM) && s.all fun c => decide (c < 128)
theorem okB_ok {s : List Nat} (h : okB s = true) : okS s := by
  unfold okB at h
  obtain ⟨h1, h2⟩ := and2 h
  exact ⟨of_decide_eq_true h1, fun c hc => of_decide_eq_true (List.all_eq_true.mp h2 c hc)⟩
mutual
def conB (K : PySem.W.Frag) : Val → Value → Bool
  | .non, .none => true
  | .bl b, .bool c => b == c
  | .int i, .int j _ => decide (i = j)
  | .str s, .str y _ => decide (y = toS s) && okB s
  | .tup xs, .ref a => (match K.lookup a with
    | some ⟨.type c, _, .seq its _, _⟩ => decide (c = "tuple") && decide (its.size ≤ sizeLine) && conBs K xs its.toList
    | _ => false)
  | .frz xs, .ref a => (match K.lookup a with
    | some ⟨.type c, none, .seq its _, _⟩ => decide (c = "list") && decide (its.size ≤ sizeLine) && conBs K xs its.toList
    | _ => false)
  | .fn x, .ref a => decide (a = He.ga K x)
  | _, _ => false
def conBs (K : PySem.W.Frag) : List Val → List Value → Bool
  | [], [] => true
  | x :: xs, u :: us => conB K x u && conBs K xs us
  | _, _ => false
end
mutual
theorem conB_ok {K : PySem.W.Frag} : ∀ {x : Val} {u : Value}, conB K x u = true → ∃ w, RelV w u ∧ ∀ ι H, VR K ι H x w
  | .non, u, h => by
    cases u <;> first | exact ⟨.non, rfl, fun _ _ => .non⟩ | (simp [conB] at h)
  | .bl b, u, h => by
    cases u with
    | bool c =>
      have e : b = c := by simpa [conB] using h
      subst e
      exact ⟨.bl b, rfl, fun _ _ => .bl b⟩
    | _ => simp [conB] at h
  | .int i, u, h => by
    cases u with
    | int j t =>
      have e : i = j := by simpa [conB] using h
      subst e
      exact ⟨.int i, ⟨t, rfl⟩, fun _ _ => .int i⟩
    | _ => simp [conB] at h
  | .str s, u, h => by
    cases u with
    | str y t =>
      simp only [conB] at h
      obtain ⟨h1, h2⟩ := and2 h
      have e := of_decide_eq_true h1
      subst e
      exact ⟨.str (toS s), ⟨t, rfl⟩, fun _ _ => .str s (okB_ok h2)⟩
    | _ => simp [conB] at h
  | .tup xs, u, h => by
    cases u with
    | ref a =>
      simp only [conB] at h
      split at h
      · rename_i c od its n sl e
        obtain ⟨h, h3⟩ := and2 h
        obtain ⟨h1, h2⟩ := and2 h
        obtain ⟨ws, rv, rr⟩ := conBs_ok h3
        exact ⟨.ref a, rfl, fun ι H => .tup (.inr ⟨_, its, n, e, congrArg Value.type (of_decide_eq_true h1), rfl, of_decide_eq_true h2, rv⟩) (rr ι H)⟩
      · cases h
    | _ => simp [conB] at h
  | .frz xs, u, h => by
    cases u with
    | ref a =>
      simp only [conB] at h
      split at h
      · rename_i c its n sl e
        obtain ⟨h, h3⟩ := and2 h
        obtain ⟨h1, h2⟩ := and2 h
        obtain ⟨ws, rv, rr⟩ := conBs_ok h3
        exact ⟨.ref a, rfl, fun ι H => .frz (.inr ⟨_, its, n, e, congrArg Value.type (of_decide_eq_true h1), rfl, rfl, of_decide_eq_true h2, rv⟩) (rr ι H)⟩
      · cases h
    | _ => simp [conB] at h
  | .ref n, u, h => by cases u <;> simp [conB] at h
  | .fn x, u, h => by
    cases u with
    | ref a =>
      have e : a = He.ga K x := by simpa [conB] using h
      subst e
      exact ⟨.ref (He.ga K x), rfl, fun _ _ => .fn x⟩
    | _ => simp [conB] at h
theorem conBs_ok {K : PySem.W.Frag} : ∀ {xs : List Val} {us : List Value}, conBs K xs us = true → ∃ ws, Vals ws us ∧ ∀ ι H, VRs K ι H xs ws
  | [], [], _ => ⟨[], .nil, fun _ _ => .nil⟩
  | [], _ :: _, h => by simp [conBs] at h
  | _ :: _, [], h => by simp [conBs] at h
  | x :: xs, u :: us, h => by
    simp only [conBs] at h
    obtain ⟨h1, h2⟩ := and2 h
    obtain ⟨w, r1, r2⟩ := conB_ok h1
    obtain ⟨ws, r3, r4⟩ := conBs_ok h2
    exact ⟨w :: ws, .cons r1 r3, fun ι H => .cons (r2 ι H) (r4 ι H)⟩
end
/-! ### what is looked at behind the top -/
def kitTs : List String := ["int", "bool", "str", "tuple", "list", "dict"]
def excB (K : PySem.W.Frag) (x : Str) : Bool := (((He.Fa.glo x).ok K && (He.Fa.exc x).ok K) && (He.eqO (PySem.W.findIn K (.ref (He.ga K x)) "__repr__") (some (some (.builtin "BaseException.__repr__"))) && nameB K (He.ga K x) x)) &&
  (He.eqO (PySem.W.findIn K (.ref (He.ga K x)) "__getattribute__") (some (some (.builtin "BaseException.__getattribute__"))) && (He.eqO (PySem.W.findIn K (.ref (He.ga K x)) "__getattr__") (some none) && (decide (PySem.W.hasDictIn K (He.ga K x) = true) &&
  (He.eqO (PySem.W.findIn K (.ref (He.ga K x)) "__class__") (some (some (.builtin "object.__class__"))) && (He.eqO (PySem.W.specialIn K (.builtin "object.__class__") "__get__") (some (some (.builtin "getset_descriptor.__get__"))) &&
  (decide (PySem.W.takesIn K (.builtin "object.__class__") = some true) && (decide (PySem.W.mroIn K (He.ga K x) (.type "object") = some true) && kitTs.all fun T => decide (PySem.W.kitOne K (.ref (He.ga K x)) (.type T) = some false))))))))
theorem excB_ok {K : PySem.W.Frag} {x : Str} (h : excB K x = true) : (((He.Fa.glo x).ok K = true ∧ (He.Fa.exc x).ok K = true) ∧ NmOk K (He.ga K x) x) ∧ ExcC K (He.ga K x) ∧ ∀ T ∈ kitTs, PySem.W.kitOne K (.ref (He.ga K x)) (.type T) = some false := by
  unfold excB at h
  obtain ⟨h0, h⟩ := and2 h
  obtain ⟨h1, h⟩ := and2 h
  obtain ⟨h2, h⟩ := and2 h
  obtain ⟨h3, h⟩ := and2 h
  obtain ⟨h4, h⟩ := and2 h
  obtain ⟨h5, h⟩ := and2 h
  obtain ⟨h6, h⟩ := and2 h
  obtain ⟨h7, h8⟩ := and2 h
  obtain ⟨h0, hr⟩ := and2 h0
  obtain ⟨hr1, hr2⟩ := and2 hr
  exact ⟨⟨and2 h0, He.eqO_ok hr1, nameB_ok hr2⟩, ⟨He.eqO_ok h1, He.eqO_ok h2, (He.exc_ok (and2 h0).2).2.2.1, of_decide_eq_true h3, He.eqO_ok h4, He.eqO_ok h5, of_decide_eq_true h6, of_decide_eq_true h7⟩, fun T hT => of_decide_eq_true (List.all_eq_true.mp h8 T hT)⟩
def exmB (p : PI0) (K : PySem.W.Frag) : Bool := p.excs.all fun x => p.excs.all fun y => (He.Fa.exm x y (p.sub x y)).ok K
def clsOf (p : PI0) (c : Nat) : Str := p.excs.getD c (p.excs.headD "")
def giB (p : PI0) (K : PySem.W.Frag) (q : Str × GI) : Bool := match q.2 with
  | .fn g k => (match p.defs[g]? with
    | some d => decide (d.name = q.1) && decide (d.params = k)
    | none => false)
  | .con v => (match PySem.W.nsIn K mainGlobals q.1 with
    | some (some u) => conB K v u
    | _ => false)
  | .exc c => decide (clsOf p c = q.1) && p.excs.contains q.1
  | .blt => (He.Fa.free q.1).ok K
  | .tab => (He.Fa.glo q.1).ok K && (p.gx.tab q.1).isSome
def subP (p : PI0) (c1 c2 : Nat) : Bool := p.sub (clsOf p c1) (clsOf p c2)
/-- a table's values -/
def tabB (K : PySem.W.Frag) (t : Str × List (List Nat × Val)) : Bool := t.2.all fun q => match PySem.W.nsIn K (He.ga K t.1) (toS q.1) with
  | some (some u) => conB K q.2 u
  | _ => false
def lookB (p : PI0) (K : PySem.W.Frag) : Bool := (p.tab.all (giB p K) && !p.excs.isEmpty) && ((p.excs.all (excB K) && exmB p K) && p.defs.all fun d => (He.Fa.glo d.name).ok K) && p.tabs.all (tabB K)
def fnD (d : DI) : He.DefD := ⟨(d.name, none), d.name, d.name, defArgs d.st, defBody d.st, defScope d.st, [], []⟩
abbrev AlM : Type := (He.AlD × List (Option (List (Option (Str × Int))))) × Bool
def obsM (p : PI0) (K : PySem.W.Frag) : AlM := ((He.obsD [] (p.defs.map fnD) K, p.tabs.map fun t => He.dicW K (He.ga K t.1)), lookB p K)
def valM (p : PI0) (w : World) : AlM := ((He.valD (p.defs.map fnD), p.tabs.map fun t => some (He.keysIn w.params (t.2.map fun q => toS q.1))), true)
def obsMG (n : Nat) (p : PI0) (g : Addr → Option PySem.Obj) : AlM := obsM p (He.frG g (He.asD g n))
def SaysM (p : PI0) (w : World) (K : PySem.W.Frag) : Prop := obsM p K = valM p w
def hookM (n : Nat) (p : PI0) : PySem.W.Hook where
  α := AlM
  obs := fun s => obsMG n p s.heap.get?
  val := fun w => valM p w
  says := fun w h => ∃ K : PySem.W.Frag, K.In h ∧ SaysM p w K
  of := fun _ _ e => ⟨_, He.frG_in, e⟩
  keeps := fun _ _ _ ⟨K, hK, c⟩ k => ⟨K, PySem.W.Frag.In.keeps hK k, c⟩
theorem obsMG_eq {n : Nat} {p : PI0} {g : Addr → Option PySem.Obj} {s : Shared} (h : ∀ a, g a = s.heap.get? a) : obsMG n p g = (hookM n p).obs s := by
  have e : g = s.heap.get? := funext h
  rw [e] <;> rfl
theorem clsOf_mem {p : PI0} (h1 : (!p.excs.isEmpty) = true) (n : Nat) : clsOf p n ∈ p.excs := by
  unfold clsOf
  cases e : p.excs with
  | nil => rw [e] at h1; cases h1
  | cons y ys =>
    by_cases hn : n < (y :: ys).length
    · rw [List.getD_eq_getElem?_getD, List.getElem?_eq_getElem hn]
      exact List.getElem_mem hn
    · rw [List.getD_eq_getElem?_getD, List.getElem?_eq_none (by omega)]
      exact List.mem_cons_self
section
variable {p : PI0} {w : World} {K : PySem.W.Frag}
theorem SaysM.d (c : SaysM p w K) : He.SaysD [] (p.defs.map fnD) K := congrArg (fun z : AlM => z.1.1) c
theorem SaysM.l (c : SaysM p w K) : lookB p K = true := congrArg (fun z : AlM => z.2) c
theorem SaysM.fn (c : SaysM p w K) {i : Nat} {d : DI} (h : p.defs[i]? = some d) : ∃ fd, FunD K d.name d.name (defArgs d.st) (defBody d.st) (defScope d.st) [] [] (He.ga K d.name) fd :=
  c.d.def_ i (d := fnD d) (by rw [List.getElem?_map, h]; rfl)
theorem SaysM.glo (c : SaysM p w K) {h : Heap} {mg : Str → Option Value} (X : K.In h) (G : h.Ns mainGlobals mg) {i : Nat} {d : DI} (hd : p.defs[i]? = some d) : mg d.name = some (.ref (He.ga K d.name)) := by
  have l := (and2 (show ((p.tab.all (giB p K) && !p.excs.isEmpty) && ((p.excs.all (excB K) && exmB p K) && p.defs.all fun d => (He.Fa.glo d.name).ok K) && p.tabs.all (tabB K)) = true from c.l)).1
  exact He.glo_ok X G (List.all_eq_true.mp (and2 (and2 l).2).2 d (List.mem_of_getElem? hd))
theorem SaysM.k (c : SaysM p w K) : p.tabs.map (fun t => He.dicW K (He.ga K t.1)) = p.tabs.map fun t => some (He.keysIn w.params (t.2.map fun q => toS q.1)) := congrArg (fun z : AlM => z.1.2) c
theorem SaysM.gi (c : SaysM p w K) {x : Str} {g : GI} (h : p.gl x = some g) : giB p K (x, g) = true := by
  have l := (and2 (show ((p.tab.all (giB p K) && !p.excs.isEmpty) && ((p.excs.all (excB K) && exmB p K) && p.defs.all fun d => (He.Fa.glo d.name).ok K) && p.tabs.all (tabB K)) = true from c.l)).1
  exact List.all_eq_true.mp (and2 (and2 l).1).1 (x, g) (PySem.mem_of_lookup h)
theorem SaysM.exc (c : SaysM p w K) (n : Nat) : excB K (clsOf p n) = true := by
  have l := (and2 (show ((p.tab.all (giB p K) && !p.excs.isEmpty) && ((p.excs.all (excB K) && exmB p K) && p.defs.all fun d => (He.Fa.glo d.name).ok K) && p.tabs.all (tabB K)) = true from c.l)).1
  have h1 := (and2 (and2 l).1).2
  have h2 := (and2 (and2 (and2 l).2).1).1
  exact List.all_eq_true.mp h2 _ (clsOf_mem h1 n)
theorem SaysM.exm (c : SaysM p w K) (c1 c2 : Nat) : PySem.W.exmOne K (.ref (He.ga K (clsOf p c1))) (.ref (He.ga K (clsOf p c2))) = some (subP p c1 c2) := by
  have l := (and2 (show ((p.tab.all (giB p K) && !p.excs.isEmpty) && ((p.excs.all (excB K) && exmB p K) && p.defs.all fun d => (He.Fa.glo d.name).ok K) && p.tabs.all (tabB K)) = true from c.l)).1
  have h1 := (and2 (and2 l).1).2
  have h2 := (and2 (and2 (and2 l).2).1).2
  unfold exmB at h2
  have h3 := List.all_eq_true.mp h2 _ (clsOf_mem h1 c1)
  exact He.exm_ok (List.all_eq_true.mp h3 _ (clsOf_mem h1 c2))
end
/-- a def binds its arguments by place -/
def BindOk (d : DI) : Prop := ∀ (kV doc pm : Value) (an : Option Addr) (cdv ct : Value) (us : List Value), us.length = (d.N.take d.params).length → bindArgs (PySem.W.fnOf d.name d.name (defArgs d.st) (defBody d.st) (defScope d.st) .none kV doc pm an cdv ct) ⟨us, []⟩ = pure ((d.N.take d.params).zip us)
def AllL {α : Type} (P : α → Prop) : List α → Prop
  | [] => True
  | x :: xs => P x ∧ AllL P xs
theorem AllL.at {α : Type} {P : α → Prop} : ∀ {l : List α} {i : Nat} {x : α}, AllL P l → l[i]? = some x → P x
  | _ :: _, 0, _, h, e => by simp at e; subst e; exact h.1
  | _ :: _, i + 1, _, h, e => AllL.at h.2 (by simpa using e)
  | [], _, _, _, e => by simp at e
/-- the compiled bodies -/
def CompOk (p : PI0) (bodies : List Ss) (q : DI × Nat) : Prop := ∃ ms, bodies[q.2]? = some ms ∧ cSs 300 (q.1.ct p) (defBody q.1.st) = some ms ∧ scopeB q.1.N q.1.params (defScope q.1.st) = true
def gsOf (p : PI0) (K : PySem.W.Frag) : Gs := ⟨K, fun c => He.ga K (clsOf p c)⟩
theorem rep_of {p : PI0} {K : PySem.W.Frag} (c : SaysM p w K) : RepOk (gsOf p K) (reprP (clsOf p)) 0 := rep_ok (G := gsOf p K) (fun n => (excB_ok (c.exc n)).1.2) fun n => (excB_ok (c.exc n)).2.1
/-! ### tables with text keys -/
theorem dicW_keys {K : PySem.W.Frag} {w : World} {a : Addr} {ks : List Str} (h : He.dicW K a = some (He.keysIn w.params ks)) : ∃ es n, KDict K w a es n ∧ es.toList.map He.keyOf = He.keysIn w.params ks := by
  obtain ⟨es, n, D⟩ := He.dicW_ok h
  refine ⟨es, n, D, ?_⟩
  unfold He.dicW at h
  rw [D.at_] at h
  simp only at h
  split at h
  · exact Option.some.inj h
  · cases h
theorem keys_find {P : Params} (x : Str) : ∀ {l : List DictEntry} {ks : List Str}, l.map He.keyOf = He.keysIn P ks → (l.find? fun e => e.key.isStr x).isSome = (ks.any fun k => k == x) ∧ (l.any fun e => e.refKey) = false
  | [], [], _ => ⟨rfl, rfl⟩
  | [], _ :: _, h => by cases h
  | _ :: _, [], h => by cases h
  | e :: l, k :: ks, h => by
    have h1 : He.keyOf e :: l.map He.keyOf = some (k, PyData.keyHash P k) :: He.keysIn P ks := h
    injection h1 with h2 h3
    obtain ⟨i1, i2⟩ := keys_find x h3
    unfold He.keyOf at h2
    split at h2
    · rename_i y t q
      obtain ⟨h5, h6⟩ := Prod.mk.inj (Option.some.inj h2)
      have r1 : e.refKey = false := by
        unfold DictEntry.refKey
        rw [q]
      have r2 : e.key.isStr x = (k == x) := by
        rw [q, ← h5]
        rfl
      rw [List.find?_cons, List.any_cons, List.any_cons, r1, r2, i2]
      cases k == x with
      | true => exact ⟨rfl, rfl⟩
      | false => exact ⟨i1, rfl⟩
    · cases h2
theorem toS_beq (a b : List Nat) : (toS a == toS b) = (a == b) := by
  by_cases h : a = b
  · subst h; simp
  · rw [beq_eq_false_iff_ne.mpr h, beq_eq_false_iff_ne.mpr fun z => h (toS_inj z)]
theorem ns_has {K : PySem.W.Frag} {w : World} {a : Addr} {kvs : List (List Nat × Val)} (h : He.dicW K a = some (He.keysIn w.params (kvs.map fun q => toS q.1))) (s : List Nat) : ∃ r, PySem.W.nsIn K a (toS s) = some r ∧ r.isSome = kvs.any fun p => p.1 == s := by
  obtain ⟨es, n, D, hk⟩ := dicW_keys h
  obtain ⟨h1, h2⟩ := keys_find (toS s) hk
  have e : ((kvs.map fun q => toS q.1).any fun k => k == toS s) = kvs.any fun p => p.1 == s := by
    rw [List.any_map]
    congr 1
    funext q
    exact toS_beq _ _
  rw [e] at h1
  unfold PySem.W.nsIn
  rw [D.at_]
  simp only
  cases hf : es.toList.find? (fun x => x.key.isStr (toS s)) with
  | some d =>
    rw [hf] at h1
    exact ⟨some d.val, rfl, h1⟩
  | none =>
    rw [hf] at h1
    refine ⟨none, ?_, h1⟩
    simp only [h2]
    rfl
theorem ground_of {P : Program} {w : World} {K : PySem.W.Frag} {mg : Str → Option Value} {base : Heap} {p : PI0} {Pg : Prog} {l0 : Nat} (X : K.In base) (G : base.Ns mainGlobals mg) (c : SaysM p w K) (hb : AllL BindOk p.defs)
    (hc : ∀ (i : Nat) (d : DI), p.defs[i]? = some d → ∃ ms, Pg.defs[i]? = some ⟨d.params, d.N.length, ms⟩ ∧ cSs 300 (d.ct p) (defBody d.st) = some ms ∧ scopeB d.N d.params (defScope d.st) = true) (rep : RepOk (gsOf p K) Pg.repr l0) (repS : ∀ v M z, Pg.repr v M = some z → okS z) (hsub : Pg.sub = subP p) (hgx : Pg.eqx = p.gx) : Ground P w K mg base p Pg (gsOf p K) l0 where
  gk := rfl
  defs := fun i d hd => by
    obtain ⟨fd, F⟩ := c.fn hd
    exact ⟨_, fd, d.name, [], c.glo X G hd, F, F.bindsN (AllL.at hb hd)⟩
  comp := fun i d hd => by
    obtain ⟨ms, h⟩ := hc i d hd
    exact ⟨300, ms, h⟩
  tabf := fun x g k h => by
    have q := c.gi h
    unfold giB at q
    simp only at q
    split at q
    · rename_i d hd
      obtain ⟨q1, q2⟩ := and2 q
      exact ⟨d, hd, of_decide_eq_true q1, of_decide_eq_true q2⟩
    · cases q
  gaf := fun i d hd => c.glo X G hd
  fno := fun x g h => by
    rw [hgx] at h
    obtain ⟨hg, hp, _⟩ := List.findIdx?_eq_some_iff_getElem.mp h
    exact ⟨p.defs[g], List.getElem?_eq_getElem hg, by simpa using hp⟩
  tabs := fun x h => by
    have q := c.gi h
    unfold giB at q
    simp only at q
    obtain ⟨q1, q2⟩ := and2 q
    obtain ⟨kvs, hk⟩ := Option.isSome_iff_exists.mp q2
    obtain ⟨t, ht, ek⟩ := Option.map_eq_some_iff.mp hk
    have hm := List.mem_of_find?_eq_some ht
    have e1 : t.1 = x := by simpa using List.find?_some ht
    obtain ⟨i, hi, ei⟩ := List.mem_iff_getElem.mp hm
    have ck := c.k
    have c2 : He.dicW K (He.ga K t.1) = some (He.keysIn w.params (t.2.map fun q => toS q.1)) := by
      have := congrArg (fun z => z[i]?) ck
      simp only [List.getElem?_map, List.getElem?_eq_getElem hi, ei, Option.map_some, Option.some.injEq] at this
      exact this
    rw [e1, ek] at c2
    obtain ⟨es, n, D, _⟩ := dicW_keys c2
    have l := (and2 (show ((p.tab.all (giB p K) && !p.excs.isEmpty) && ((p.excs.all (excB K) && exmB p K) && p.defs.all fun d => (He.Fa.glo d.name).ok K) && p.tabs.all (tabB K)) = true from c.l)).2
    have lt := List.all_eq_true.mp l t hm
    unfold tabB at lt
    rw [e1, ek] at lt
    refine ⟨kvs, by rw [hgx]; exact hk, He.glo_ok X G q1, ⟨es, n, D⟩, fun s v e => ?_, ns_has c2⟩
    obtain ⟨r, hr, rfl⟩ := Option.map_eq_some_iff.mp e
    have e2 : r.1 = s := by simpa using List.find?_some hr
    have z := List.all_eq_true.mp lt r (List.mem_of_find?_eq_some hr)
    rw [e2] at z
    split at z
    · rename_i u hu
      obtain ⟨v2, r1, r2⟩ := conB_ok z
      exact ⟨u, v2, hu, r1, r2⟩
    · cases z
  con := fun x v h => by
    have q := c.gi h
    unfold giB at q
    simp only at q
    split at q
    · rename_i u hu
      obtain ⟨w, r1, r2⟩ := conB_ok q
      exact ⟨u, w, PySem.W.mg_of X G hu, r1, r2⟩
    · cases q
  blt := fun x h => He.free_ok X G (c.gi h)
  exc := fun x n h => by
    have q := c.gi h
    unfold giB at q
    simp only at q
    obtain ⟨q1, q2⟩ := and2 q
    have e := of_decide_eq_true q1
    have z := (excB_ok (c.exc n)).1.1
    obtain ⟨z1, z2, _, z4⟩ := He.exc_ok z.2
    have hg : mg (clsOf p n) = some (.ref (He.ga K (clsOf p n))) := He.glo_ok X G z.1
    exact ⟨by rw [← e]; exact hg, ⟨_, _, _, _, PySem.F.excBase_ValueError, z1⟩, z2, z4⟩
  exm := fun c1 c2 => by rw [hsub]; exact c.exm c1 c2
  rep := rep
  repS := repS
  exs := fun n => let z := excB_ok (c.exc n); ⟨z.2.1, z.2.2⟩
end Mi
end MiHeadS

section MiEndS
set_option Elab.async false
set_option linter.all false
set_option maxRecDepth 100000
namespace Mi
open PySem PySem.Spec PyProof.Rows L2
theorem fixed_of {K : PySem.W.Frag} {H : Hp} {a : Addr} {vs : List V} (h : SqL K H a vs) (o : Only H) : Fixed K H a vs := by
  rcases h with (h | h) | h
  · rcases o a with e | ⟨ob, xs, e⟩
    · rw [e] at h; cases h
    · rw [e] at h; cases h
  · exact .inl h
  · exact .inr h
theorem ints_vrs {K : PySem.W.Frag} {ι : List Addr} {H : Hp} : ∀ ns : List Int, VRs K ι H (ns.map Val.int) (ns.map V.int)
  | [] => .nil
  | n :: ns => .cons (.int n) (ints_vrs ns)
theorem law_spec {G : Gs} {H : Hp} {a : Addr} {ns : List Int} {Pg : Prog} {n i : Nat} {M : Store} (hS : SqL G.K H a (ns.map V.int)) (hO : Only H) (e : call Pg n i [.frz (ns.map Val.int)] [] = .ok (.bl true) M) :
    spI G (call Pg n) i 1 [.ref a] H (fun v _ => v = .bl true) fun _ _ _ => False := by
  refine ⟨[], [], [.frz (ns.map Val.int)], rfl, .cons (.frz (fixed_of hS hO) (ints_vrs ns)) .nil, ⟨rfl, fun n o a e => by simp at e, List.nodup_nil⟩, ?_⟩
  rw [e]
  intro ι' H' w _ _ r
  cases r
  rfl
theorem noCX {P : Program} {w : World} (H : Hp) (s : Shared) (e : Value) (s' : Shared) (h : L2.CX P w [] H s (fun _ _ _ => False) e s') : False := by
  obtain ⟨_, _, _, _, _, _, _, _, _, _, _, _, z⟩ := h
  exact z
/-- the law's call, from the first caller: nothing is under way there -/
theorem lawCore {P : Program} {w : World} {K : PySem.W.Frag} {mg mb : Str → Option Value} {k : Nat} {fa a : Addr} {fd : FuncData} {x : Str} {sp : Sp} {z : Shared} {vs : List Value} {H : Hp}
    (KX : K.In z.heap) (n1 : z.heap.Ns mainGlobals mg) (n2 : z.heap.Ns builtinsNs mb) (n3 : ∀ y : Str, y ≠ "__name__" → mb y = bootBuiltins y) (nl : z.heap.NoLimit) (hg : z.gens = #[]) (ea : z.heap.get? a = some { cls := .type "list", data := .seq vs.toArray }) (rm : Room k callerA)
    (F : ∀ base : Heap, K.In base → base.Ns mainGlobals mg → FnG P w K mg base k fa fd [x] sp) (bn : ∀ (s : Shared) (u : Value), BindsTo s fd ⟨[u], []⟩ [(x, u)]) (hsp : sp [.ref a] H (fun v _ => v = .bl true) fun _ _ _ => False)
    (oH : Only H) (hok : HOk P w H z.heap) (hA : ∀ b, H b ≠ none → b = a) (hK : H a ≠ none → K.lookup a = none) :
    codeAny (model P w) callerA (.call (.ref fa) ⟨[.ref a], []⟩) (fun r s' => r = .ok (.ret (.bool true)) ∧ OldK z.heap s'.heap ∧ s'.os = z.os ∧ AllBare s'.gens) z := by
  have other : ∀ {b : Addr}, b ≠ a → H b = none := fun {b} nb => Classical.byContradiction fun q => nb (hA b q)
  have dictNone : ∀ {b : Addr} {o : PySem.Obj} {es : Array DictEntry} {ep : Nat}, z.heap.get? b = some o → o.data = .dict es ep → H b = none := fun {b o es ep} e d => other fun q => by
    rw [q, ea] at e
    cases e
    cases d
  have ns : ∀ {b : Addr} {m : Str → Option Value}, z.heap.Ns b m → (hidT z.heap H).Ns b m := fun {b m} ⟨o, es, ep, e, d, r⟩ => ⟨o, es, ep, hidT_get e (dictNone e d), d, r⟩
  have Kb : K.In (hidT z.heap H) := fun b o e => hidT_get (KX b o e) (by
    by_cases q : b = a
    · cases hq : H b with
      | none => rfl
      | some u =>
        have z1 := hK (by rw [← q, hq]; exact fun t => by cases t)
        rw [q, z1] at e
        cases e
    · exact other q)
  have lim : (hidT z.heap H).NoLimit := let ⟨mc, h1, h2⟩ := nl; ⟨mc, ns h1, h2⟩
  have e0 : Env0 P w K mg (hidT z.heap H) callerA [] z H :=
    { frames := rfl, mod := ⟨Kb, ns n1, ⟨mb, ns n2, n3⟩, lim⟩, bs := fun b o e => of_hidT e, bsz := Nat.le_of_eq (hidT_size _ _), funs := trivial, frf := (fun b hb => nomatch hb), hok := hok, bare := .of_eq hg }
  refine codeAny_mono ((F _ Kb (ns n1)).go callerA [] z H ⟨[.ref a], []⟩ [.ref a] [.ref a] _ _ rfl rm e0 (bn z (.ref a)) (.cons rfl .nil) hsp) ?_
  intro r s' h
  match r, h with
  | .error e, h => exact (noCX H z e s' h).elim
  | .ok (.ret u), ⟨v, H', os, bare, un, hok', r', q⟩ =>
    have q1 : v = .bl true := q
    subst q1
    have q2 : u = Value.bool true := r'
    subst q2
    refine ⟨rfl, OldK.of_keep ?_, os, bare⟩
    intro b o e
    cases hb : H b with
    | none => exact un.keep b o e hb (fun t => by cases t) (fun t => by cases t)
    | some u =>
      rcases oH b with t | ⟨ob, xs, t⟩
      · rw [hb] at t; cases t
      · have t1 := (hok b _ t).1
        have t2 := (hok' b _ (un.frzs b ob _ t)).1
        rw [e] at t1
        rw [t2]
        exact t1.symm
theorem lawG {P : Program} {w : World} {K : PySem.W.Frag} {mg mb : Str → Option Value} {k : Nat} {fa a : Addr} {fd : FuncData} {x : Str} {sp : Sp} {z : Shared} {vs : List Value} {ns : List Int}
    (KX : K.In z.heap) (n1 : z.heap.Ns mainGlobals mg) (n2 : z.heap.Ns builtinsNs mb) (n3 : ∀ y : Str, y ≠ "__name__" → mb y = bootBuiltins y) (nl : z.heap.NoLimit) (hg : z.gens = #[]) (ea : z.heap.get? a = some { cls := .type "list", data := .seq vs.toArray }) (hi : IntsAre vs ns) (hl : ns.length ≤ sizeLine) (rm : Room k callerA)
    (F : ∀ base : Heap, K.In base → base.Ns mainGlobals mg → FnG P w K mg base k fa fd [x] sp) (bn : ∀ (s : Shared) (u : Value), BindsTo s fd ⟨[u], []⟩ [(x, u)]) (hsp : ∀ H : Hp, Only H → SqL K H a (ns.map V.int) → sp [.ref a] H (fun v _ => v = .bl true) fun _ _ _ => False) :
    codeAny (model P w) callerA (.call (.ref fa) ⟨[.ref a], []⟩) (fun r s' => r = .ok (.ret (.bool true)) ∧ OldK z.heap s'.heap ∧ s'.os = z.os ∧ AllBare s'.gens) z := by
  have rv := vals_ints hi
  have le := hi.length
  cases hk : K.lookup a with
  | some o =>
    have e := KX a o hk
    rw [ea] at e
    cases e
    have oH : Only fun _ => none := fun _ => .inl rfl
    refine lawCore KX n1 n2 n3 nl hg ea rm F bn (hsp _ oH (.inr ⟨_, vs.toArray, _, hk, rfl, rfl, rfl, ?_, ?_⟩)) oH (fun b u t => by cases t) (fun b t => absurd rfl t) fun t => absurd rfl t
    · simp only [List.size_toArray]; omega
    · simpa using rv
  | none =>
    let ob : PySem.Obj := { cls := .type "list", data := .seq vs.toArray }
    let H : Hp := fun b => if b = a then some (.frz ob (.lst (ns.map V.int))) else none
    have ha : H a = some (.frz ob (.lst (ns.map V.int))) := if_pos rfl
    have hn : ∀ b, b ≠ a → H b = none := fun b t => if_neg t
    have oH : Only H := fun b => by
      by_cases t : b = a
      · exact .inr ⟨ob, _, t ▸ ha⟩
      · exact .inl (hn b t)
    refine lawCore KX n1 n2 n3 nl hg ea rm F bn (hsp H oH (.inl (.inr ⟨ob, ha⟩))) oH (fun b u t => ?_) (fun b t => Classical.byContradiction fun q => t (hn b q)) fun _ => hk
    by_cases q : b = a
    · subst q
      have t2 := ha.symm.trans t
      cases t2
      exact ⟨ea, by rw [List.length_map]; exact hl, vs, _, rv, ea⟩
    · rw [hn b q] at t
      cases t
theorem walkM {l : PySem.W.OpenLaw} {n k : Nat} {q : Program} {loose : List Str} {XP : (Str → Option Value) → Heap → Prop} {YP : World → Heap → Prop} {d : DefRec} {x : Str} (hn : l.most = some n) (hn2 : n ≤ sizeLine) (hdf : d.params.defaults = []) (rm : Room k callerA)
    (F : ∀ (w : World) (mg : Str → Option Value) (fa : Addr) (h : Heap), YP w h → h.Ns mainGlobals mg → mg d.name = some (.ref fa) → ∃ (K : PySem.W.Frag) (fd : FuncData) (sp : Sp), K.In h ∧ (∀ (s : Shared) (u : Value), BindsTo s fd ⟨[u], []⟩ [(x, u)]) ∧
      (∀ (H : Hp) (a : Addr) (ns : List Int), ns.length ≤ n → Only H → SqL K H a (ns.map V.int) → sp [.ref a] H (fun v _ => v = .bl true) fun _ _ _ => False) ∧ ∀ base : Heap, K.In base → base.Ns mainGlobals mg → FnG l.prog w K mg base k fa fd [x] sp) :
    PySem.W.WalkO q loose XP YP l.row.toRowW d [] (fun f vs => PySem.call f vs) := by
  refine Att.attach_call hn hdf ?_
  intro w s0 z mg mb fa o pm cd doc a vs ns G Y ho hd hcd hmg hobj hints hlen hg
  obtain ⟨K, fd, sp, KX, hb, hsp, hF⟩ := F w mg fa _ Y G.T.g hmg
  exact lawG KX G.T.g G.T.b G.T.builtins G.T.nolimit hg hobj hints (Nat.le_trans hlen hn2) rm hF hb (fun H oH hS => hsp H a ns hlen oH hS)
/-- the law's def keeps its promise, whatever the module's heap -/
theorem law_at {P : Program} {w : World} {K : PySem.W.Frag} {mg : Str → Option Value} {h : Heap} {p : PI0} {Pg : Prog} {l0 n i : Nat} {fa : Addr} {d : DI} {x : Str} (hi : p.defs[i]? = some d) (hx : d.N.take d.params = [x]) (hp : d.params = 1) (c : SaysM p w K) (X : K.In h) (G : h.Ns mainGlobals mg) (hm : mg d.name = some (.ref fa)) (hb : AllL BindOk p.defs)
    (hc : ∀ (i : Nat) (d : DI), p.defs[i]? = some d → ∃ ms, Pg.defs[i]? = some ⟨d.params, d.N.length, ms⟩ ∧ cSs 300 (d.ct p) (defBody d.st) = some ms ∧ scopeB d.N d.params (defScope d.st) = true) (rep : RepOk (gsOf p K) Pg.repr l0) (repS : ∀ v M z, Pg.repr v M = some z → okS z) (hsub : Pg.sub = subP p) (hgx : Pg.eqx = p.gx)
    {m : Nat} (math : ∀ ns : List Int, ns.length ≤ m → ∃ M, call Pg n i [.frz (ns.map Val.int)] [] = .ok (.bl true) M) :
    ∃ (fd : FuncData) (sp : Sp), (∀ (s : Shared) (u : Value), BindsTo s fd ⟨[u], []⟩ [(x, u)]) ∧ (∀ (H : Hp) (a : Addr) (ns : List Int), ns.length ≤ m → Only H → SqL K H a (ns.map V.int) → sp [.ref a] H (fun v _ => v = .bl true) fun _ _ _ => False) ∧
      ∀ base : Heap, K.In base → base.Ns mainGlobals mg → FnG P w K mg base (n + l0) fa fd [x] sp := by
  obtain ⟨fd, F⟩ := c.fn hi
  have e := hm.symm.trans (c.glo X G hi)
  cases e
  refine ⟨fd, spI (gsOf p K) (call Pg n) i 1, fun s u => ?_, fun H a ns hl hO hS => ?_, fun base Xb Gb => ?_⟩
  · have z := FunD.bindsA F (AllL.at hb hi) s [u] (by rw [hx]; rfl)
    rw [hx] at z
    exact z
  · obtain ⟨M, e⟩ := math ns hl
    exact law_spec hS hO e
  · have z := all_ok (P := P) (w := w) (ground_of Xb Gb c hb hc rep repS hsub hgx) n i d hi _ fd d.name [] F
    rw [hx, hp] at z
    exact z
end Mi
namespace Mi
open PySem L2
theorem AllL.zip {α β : Type} {P : α × β → Prop} : ∀ {as : List α} {bs : List β} {i : Nat} {a : α}, AllL P (as.zip bs) → as.length = bs.length → as[i]? = some a → ∃ b, (as.zip bs)[i]? = some (a, b) ∧ P (a, b)
  | [], _, _, _, _, _, e => by simp at e
  | x :: xs, [], _, _, _, h, _ => by simp at h
  | x :: xs, y :: ys, 0, a, h, _, e => by
    have : x = a := by simpa using e
    subst this
    exact ⟨y, rfl, h.1⟩
  | x :: xs, y :: ys, i + 1, a, h, l, e => by
    obtain ⟨b, h1, h2⟩ := AllL.zip (as := xs) (bs := ys) (i := i) h.2 (by simpa using l) (by simpa using e)
    exact ⟨b, by simpa using h1, h2⟩
def defsOf (ds : List DI) (bs : List Ss) : List Def := (ds.zip bs).map fun q => ⟨q.1.params, q.1.N.length, q.2⟩
theorem comp_of {p : PI0} {bs : List Ss} {Pg : Prog} (e : Pg.defs = defsOf p.defs bs) (h : AllL (fun q : DI × Ss => cSs 300 (q.1.ct p) (defBody q.1.st) = some q.2 ∧ scopeB q.1.N q.1.params (defScope q.1.st) = true) (p.defs.zip bs)) (hl : p.defs.length = bs.length) (i : Nat) (d : DI) (hd : p.defs[i]? = some d) :
    ∃ ms, Pg.defs[i]? = some ⟨d.params, d.N.length, ms⟩ ∧ cSs 300 (d.ct p) (defBody d.st) = some ms ∧ scopeB d.N d.params (defScope d.st) = true := by
  obtain ⟨b, h1, h2⟩ := AllL.zip h hl hd
  refine ⟨b, ?_, h2⟩
  rw [e]
  unfold defsOf
  rw [List.getElem?_map, h1]
  rfl
end Mi
end MiEndS

section MiSimpS
set_option Elab.async false
set_option linter.all false
set_option maxRecDepth 100000
/-! the small language's runs as rewriting -/
namespace Mi
section
variable {cf : Cf} {σ : St} {M : Store}
@[simp] theorem s_var (i : Nat) : ev cf (.var i) σ M = match σ[i]? with | some (some v) => .ok v M | _ => .bad := by rw [ev] <;> rfl
@[simp] theorem s_cst (v : Val) : ev cf (.cst v) σ M = .ok v M := by rw [ev]
@[simp] theorem s_op (o : Op2) (a b : E) : ev cf (.op o a b) σ M = (ev cf a σ M).bind fun x M1 => (ev cf b σ M1).bind fun y M2 => op2 o x y M2 := by rw [ev]
@[simp] theorem s_cmp (o : Cmp) (a b : E) : ev cf (.cmp o a b) σ M = (ev cf a σ M).bind fun x M1 => (ev cf b σ M1).bind fun y M2 => ofOpt ((cmpV o x y M2).map .bl) M2 := by rw [ev]
@[simp] theorem s_chain (o p : Cmp) (a b c : E) : ev cf (.chain o p a b c) σ M = (ev cf a σ M).bind fun x M1 => (ev cf b σ M1).bind fun y M2 => (ofOpt (cmpV o x y M2) M2).bind fun k M3 => if k then (ev cf c σ M3).bind fun z M4 => ofOpt ((cmpV p y z M4).map .bl) M4 else .ok (.bl false) M3 := by rw [ev]
@[simp] theorem s_neg (a : E) : ev cf (.neg a) σ M = (ev cf a σ M).bind fun x M1 => match x with | .int i => .ok (.int (-i)) M1 | _ => .bad := by rw [ev] <;> rfl
@[simp] theorem s_not (a : E) : ev cf (.not a) σ M = (ev cf a σ M).bind fun x M1 => (ofOpt (truth M1 x) M1).bind fun k M2 => .ok (.bl (!k)) M2 := by rw [ev]
@[simp] theorem s_and (a b : E) : ev cf (.and a b) σ M = (ev cf a σ M).bind fun x M1 => (ofOpt (truth M1 x) M1).bind fun k M2 => if k then ev cf b σ M2 else .ok x M2 := by rw [ev]
@[simp] theorem s_or (a b : E) : ev cf (.or a b) σ M = (ev cf a σ M).bind fun x M1 => (ofOpt (truth M1 x) M1).bind fun k M2 => if k then .ok x M2 else ev cf b σ M2 := by rw [ev]
@[simp] theorem s_ite (c a b : E) : ev cf (.ite c a b) σ M = (ev cf c σ M).bind fun x M1 => (ofOpt (truth M1 x) M1).bind fun k M2 => if k then ev cf a σ M2 else ev cf b σ M2 := by rw [ev]
@[simp] theorem s_tup (es : Es) : ev cf (.tup es) σ M = (evs cf es σ M).bind fun xs M1 => if xs.length ≤ LIM then .ok (.tup xs) M1 else .bad := by rw [ev]
@[simp] theorem s_lst (l : L) : ev cf (.lst l) σ M = (evL cf l σ M).bind fun xs M1 => .ok (.ref M1.length) (M1 ++ [.lst xs]) := by rw [ev]
@[simp] theorem s_dic (kvs : Es) : ev cf (.dic kvs) σ M = (evs cf kvs σ M).bind fun xs M1 => if keysOk (pairUp xs) then .ok (.ref M1.length) (M1 ++ [.dic (pairUp xs)]) else .bad := by rw [ev]
@[simp] theorem s_ix (a i : E) : ev cf (.ix a i) σ M = (ev cf a σ M).bind fun x M1 => (ev cf i σ M1).bind fun y M2 => ofOpt (ixV x y M2) M2 := by rw [ev]
@[simp] theorem s_ixl (l : L) (i : E) : ev cf (.ixl l i) σ M = (evL cf l σ M).bind fun xs M1 => (ev cf i σ M1).bind fun y M2 => ofOpt ((asInt y).bind (itemAt xs)) M2 := by rw [ev]
@[simp] theorem s_sl (a : E) (lo hi : Eo) : ev cf (.sl a lo hi) σ M = (ev cf a σ M).bind fun x M1 => (evo cf lo σ M1).bind fun l M2 => (evo cf hi σ M2).bind fun h M3 => slV x l h M3 := by rw [ev]
@[simp] theorem s_isi (a : E) (c : Cl) : ev cf (.isi a c) σ M = (ev cf a σ M).bind fun x M1 => ofOpt ((isOf c x M1).map .bl) M1 := by rw [ev]
@[simp] theorem s_call (g : Nat) (es : Es) : ev cf (.call g es) σ M = (evs cf es σ M).bind fun xs M1 => cf.call g xs M1 := by rw [ev]
@[simp] theorem s_bi (b : Bi) (a : E) : ev cf (.bi b a) σ M = (ev cf a σ M).bind fun x M1 => bi1 cf b x M1 := by rw [ev]
@[simp] theorem s_bil (b : Bil) (l : L) : ev cf (.bil b l) σ M = (evL cf l σ M).bind fun xs M1 => bil1 b xs M1 := by rw [ev]
@[simp] theorem s_mt (m : Mt) (a : E) : ev cf (.mt m a) σ M = (ev cf a σ M).bind fun x M1 => mt1 m x M1 := by rw [ev]
@[simp] theorem s_newx (c : Nat) : ev cf (.newx c) σ M = .ok (.ref M.length) (M ++ [.exv c]) := by rw [ev]
@[simp] theorem ss_nil : evs cf .nil σ M = .ok [] M := by rw [evs]
@[simp] theorem ss_cons (e : E) (es : Es) : evs cf (.cons e es) σ M = (ev cf e σ M).bind fun x M1 => (evs cf es σ M1).bind fun xs M2 => .ok (x :: xs) M2 := by rw [evs]
@[simp] theorem so_none : evo cf .none σ M = .ok none M := by rw [evo]
@[simp] theorem so_some (e : E) : evo cf (.some e) σ M = (ev cf e σ M).bind fun x M1 => match x with | .int i => .ok (some i) M1 | _ => .bad := by rw [evo] <;> rfl
@[simp] theorem st_nil0 : evt cf .nil σ M = .ok true M := by rw [evt]
@[simp] theorem sl_disp (es : Es) : evL cf (.disp es) σ M = (evs cf es σ M).bind fun xs M1 => if xs.length ≤ LIM then .ok xs M1 else .bad := by rw [evL]
@[simp] theorem sS_seq (e : E) : evS cf (.seq e) σ M = (ev cf e σ M).bind fun x M1 => ofOpt (itemsOf M1 x) M1 := by rw [evS]
@[simp] theorem sS_rng (a : E) : evS cf (.rng a) σ M = (ev cf a σ M).bind fun x M1 => match x with | .int j => if decide (j < 2 ^ 62) && decide (-(2 ^ 62) ≤ j) then .ok ((List.range j.toNat).map fun i => .int (i : Nat), []) M1 else .bad | _ => .bad := by rw [evS] <;> rfl
@[simp] theorem x_set (i : Nat) (e : E) : ex cf (.set i e) σ M = Out.on (ev cf e σ M) σ fun v M1 => .nx (σ.set i (some v)) M1 := by rw [ex]
@[simp] theorem x_unp (is : List Nat) (e : E) : ex cf (.unp is e) σ M = Out.on (ev cf e σ M) σ fun v M1 => match put (.many is) v σ with | some σ1 => .nx σ1 M1 | none => .bad := by rw [ex] <;> rfl
@[simp] theorem x_par (i j : Nat) (a b : E) : ex cf (.par i j a b) σ M = Out.on (ev cf a σ M) σ fun x M1 => Out.on (ev cf b σ M1) σ fun y M2 => .nx ((σ.set i (some x)).set j (some y)) M2 := by rw [ex]
@[simp] theorem x_expr (e : E) : ex cf (.expr e) σ M = Out.on (ev cf e σ M) σ fun _ M1 => .nx σ M1 := by rw [ex]
@[simp] theorem x_ret (e : E) : ex cf (.ret e) σ M = Out.on (ev cf e σ M) σ fun v M1 => .ret v M1 := by rw [ex]
@[simp] theorem x_retN : ex cf .retN σ M = .ret .non M := by rw [ex]
@[simp] theorem x_ite (c : E) (a b : Ss) : ex cf (.ite c a b) σ M = Out.on (ev cf c σ M) σ fun x M1 => Out.on (ofOpt (truth M1 x) M1) σ fun k M2 => if k then exs cf a σ M2 else exs cf b σ M2 := by rw [ex]
@[simp] theorem x_pass : ex cf .pass σ M = .nx σ M := by rw [ex]
@[simp] theorem xs_nil : exs cf .nil σ M = .nx σ M := by rw [exs]
@[simp] theorem xs_cons (s : S) (ss : Ss) : exs cf (.cons s ss) σ M = (ex cf s σ M).seq fun σ1 M1 => exs cf ss σ1 M1 := by rw [exs]
@[simp] theorem ofOpt_some {α : Type} (a : α) : ofOpt (some a) M = .ok a M := rfl
end
theorem call_s (P : Prog) (n g : Nat) (vs : List Val) (M : Store) (d : Def) (hd : P.defs[g]? = some d) (hv : vs.length = d.params) : call P (n + 1) g vs M = back M (exs ⟨call P n, P.repr, P.eqx, P.sub⟩ d.body (start d vs) M) := by
  show (match P.defs[g]? with
    | some d => if vs.length = d.params then back M (exs ⟨call P n, P.repr, P.eqx, P.sub⟩ d.body (start d vs) M) else .bad
    | none => .bad) = _
  rw [hd]
  simp only [hv, if_true]
@[simp] theorem back_ret (M M' : Store) (v : Val) : back M (.ret v M') = .ok v M' := rfl
@[simp] theorem back_nx (M M' : Store) (τ : St) : back M (.nx τ M') = .ok .non M' := rfl
/-- a comprehension that changes nothing -/
theorem turns_pure {f : Val → Store → Res (Option Val)} {all : List Val} {g : Gd} {M : Store} (hs : still M all g) (p : Val → Val) : ∀ {xs : List Val}, (∀ x ∈ xs, f x M = .ok (some (p x)) M) → turns f all g xs M = .ok (xs.map p) M
  | [], _ => by unfold turns; rw [if_pos hs]; rfl
  | x :: xs, h => by
    unfold turns
    rw [if_pos hs, h x List.mem_cons_self]
    simp only [Res.calm_ok, Res.bind_ok]
    rw [turns_pure hs p fun y hy => h y (List.mem_cons_of_mem _ hy)]
    rfl
end Mi
namespace Mi
/-- a comprehension over what stays, whose turns change nothing -/
theorem comp_pure {cf : Cf} {σ : St} {M : Store} {own : List Nat} {i : Nat} {a e : E} {v : Val} {xs : List Val} (p : Val → Val) (ha : ev cf a σ M = .ok v M) (hx : itemsOf M v = some (xs, [])) (hl : xs.length ≤ LIM) (h : ∀ x ∈ xs, ev cf e ((wiped σ own).set i (some x)) M = .ok (p x) M) :
    evL cf (.comp own (.one i) (.seq a) .nil e) σ M = .ok (xs.map p) M := by
  rw [evL_comp, sS_seq, ha]
  simp only [Res.bind_ok, hx, ofOpt_some]
  rw [turns_pure (M := M) (g := []) True.intro p fun x hm => ?_]
  · simp [lcEnd, hl]
  · unfold lcTurn
    simp only [put, st_nil0, Res.bind_ok, if_true]
    rw [h x hm]
    rfl
theorem bools_map {xs : List Val} (p : Val → Bool) : boolsOf (xs.map fun x => .bl (p x)) = some (xs.map p) := by
  induction xs with
  | nil => rfl
  | cons x xs ih => simp [boolsOf, ih]
theorem all_pure {cf : Cf} {σ : St} {M : Store} {own : List Nat} {i : Nat} {a e : E} {v : Val} {xs : List Val} (p : Val → Bool) (ha : ev cf a σ M = .ok v M) (hx : itemsOf M v = some (xs, [])) (hl : xs.length ≤ LIM) (h : ∀ x ∈ xs, ev cf e ((wiped σ own).set i (some x)) M = .ok (.bl (p x)) M) :
    ev cf (.bil .all (.comp own (.one i) (.seq a) .nil e)) σ M = .ok (.bl (xs.all p)) M := by
  rw [s_bil, comp_pure (fun x => .bl (p x)) ha hx hl h]
  simp only [Res.bind_ok, bil1, bools_map, Option.map_some, ofOpt_some]
  rw [List.all_map]
  rfl
end Mi
namespace Mi
section
variable {cf : Cf} {σ : St} {M : Store}
@[simp] theorem x_six (o i v : E) : ex cf (.six o i v) σ M = Out.on (ev cf v σ M) σ fun z M1 => Out.on (ev cf o σ M1) σ fun x M2 => Out.on (ev cf i σ M2) σ fun y M3 => match x, y with
    | .ref n, y => match M3[n]? with
      | some (.lst xs) => (match y with
        | .int k => (match place xs.length k with
          | some j => .nx σ (M3.set n (.lst (xs.set j z)))
          | none => .bad)
        | _ => .bad)
      | some (.dic kvs) => if keyV y && decide (kvs.length < LIM) then .nx σ (M3.set n (.dic (dicPut kvs y z))) else .bad
      | _ => .bad
    | _, _ => .bad := by rw [ex] <;> rfl
@[simp] theorem x_sixk (o a : E) (lo hi : Eo) (v : E) : ex cf (.sixk o a lo hi v) σ M = Out.on (ev cf v σ M) σ fun z M1 => Out.on (ev cf o σ M1) σ fun x M2 => Out.on (ev cf a σ M2) σ fun w M3 => Out.on (evo cf lo σ M3) σ fun l M4 => Out.on (evo cf hi σ M4) σ fun h M5 => match sixkV x w l h z M5 with
    | some M6 => .nx σ M6
    | none => .bad := by rw [ex] <;> rfl
@[simp] theorem s_tupx (r : Sx) : ev cf (.tupx r) σ M = (evx cf r σ M).bind fun xs M1 => if xs.length ≤ LIM then .ok (.tup xs) M1 else .bad := by rw [ev]
@[simp] theorem sx_nil : evx cf .nil σ M = .ok [] M := by rw [evx]
@[simp] theorem sx_cons (e : E) (es : Sx) : evx cf (.cons e es) σ M = (ev cf e σ M).bind fun x M1 => (evx cf es σ M1).bind fun xs M2 => .ok (x :: xs) M2 := by rw [evx]
@[simp] theorem sx_star (e : E) (es : Sx) : evx cf (.star e es) σ M = (ev cf e σ M).bind fun x M1 => match starV M1 x with
    | some ys => (evx cf es σ M1).bind fun xs M2 => .ok (ys ++ xs) M2
    | none => .bad := by rw [evx] <;> rfl
@[simp] theorem x_aug (i : Nat) (g : Bool) (e : E) : ex cf (.aug i g e) σ M = match σ[i]? with
    | some (some (.int a)) => Out.on (ev cf e σ M) σ fun y M1 => match y with
      | .int b => .nx (σ.set i (some (.int (if g then a - b else a + b)))) M1
      | _ => .bad
    | _ => .bad := by rw [ex] <;> rfl
@[simp] theorem x_par3 (i j k : Nat) (a b c : E) : ex cf (.par3 i j k a b c) σ M = Out.on (ev cf a σ M) σ fun x M1 => Out.on (ev cf b σ M1) σ fun y M2 => Out.on (ev cf c σ M2) σ fun z M3 => .nx (((σ.set i (some x)).set j (some y)).set k (some z)) M3 := by rw [ex]
@[simp] theorem s_callv (i : Nat) (es : Es) : ev cf (.callv i es) σ M = match σ[i]? with
    | some (some (.fn x)) => (match cf.eqx.fno x with
      | some g => (evs cf es σ M).bind fun xs M1 => cf.call g xs M1
      | none => .bad)
    | _ => .bad := by rw [ev] <;> rfl
@[simp] theorem s_tget (x : PySem.Str) (a : E) : ev cf (.tget x a) σ M = (ev cf a σ M).bind fun y M1 => ofOpt (tabGet cf.eqx x y) M1 := by rw [ev]
@[simp] theorem s_tin (g : Bool) (a : E) (x : PySem.Str) : ev cf (.tin g a x) σ M = (ev cf a σ M).bind fun y M1 => ofOpt ((tabIn cf.eqx x y).map fun k => .bl (if g then !k else k)) M1 := by rw [ev]
@[simp] theorem s_isis (a : E) (cs : List Cl) : ev cf (.isis a cs) σ M = (ev cf a σ M).bind fun x M1 => ofOpt ((isOfs cs x M1).map .bl) M1 := by rw [ev]
@[simp] theorem s_rev (a : E) : ev cf (.rev a) σ M = (ev cf a σ M).bind fun x M1 => match x with
    | .tup xs => .ok (.tup xs.reverse) M1
    | _ => .bad := by rw [ev] <;> rfl
@[simp] theorem sl_srt (a : E) : evL cf (.srt a) σ M = (ev cf a σ M).bind fun x M1 => match x with
    | .ref n => match M1[n]? with
      | some (.lst xs) => if srtOk xs then .ok (srtV xs) M1 else .bad
      | some (.dit kvs) => if srtOk (kvs.map fun p => .tup p.1) then .ok (srtV (kvs.map fun p => .tup p.1)) M1 else .bad
      | some (.dic kvs) => if kvs.isEmpty then .ok [] M1 else .bad
      | _ => .bad
    | _ => .bad := by rw [evL] <;> rfl
@[simp] theorem sl_rng2 (a b : E) : evL cf (.rng2 a b) σ M = (ev cf a σ M).bind fun x M1 => (ev cf b σ M1).bind fun y M2 => match x, y with
    | .int i, .int j => if rngOk i j then .ok (rngV i j) M2 else .bad
    | _, _ => .bad := by rw [evL] <;> rfl
@[simp] theorem sS_zip (a b : E) : evS cf (.zip a b) σ M = (ev cf a σ M).bind fun x M1 => (ev cf b σ M1).bind fun y M2 => match x, y with
    | .tup xs, .tup ys => .ok (zipV xs ys, []) M2
    | .ref m, .ref n => (match M2[m]?, M2[n]? with
      | some (.lst xs), some (.lst ys) => .ok (zipV xs ys, [(m, xs), (n, ys)]) M2
      | _, _ => .bad)
    | _, _ => .bad := by rw [evS] <;> rfl
@[simp] theorem sS_rng2 (a b : E) : evS cf (.rng2 a b) σ M = (ev cf a σ M).bind fun x M1 => (ev cf b σ M1).bind fun y M2 => match x, y with
    | .int i, .int j => if rngOk i j then .ok (rngV i j, []) M2 else .bad
    | _, _ => .bad := by rw [evS] <;> rfl
end
end Mi
namespace Mi
section
variable {cf : Cf} {σ : St} {M : Store}
@[simp] theorem s_inl (g : Bool) (a : E) (l : L) : ev cf (.inl g a l) σ M = (ev cf a σ M).bind fun x M1 => (evL cf l σ M1).bind fun xs M2 => ofOpt ((inl1 g x xs).map .bl) M2 := by rw [ev]
@[simp] theorem s_bin (b : Bn) (x y : E) : ev cf (.bin b x y) σ M = (ev cf x σ M).bind fun i M1 => (ev cf y σ M1).bind fun j M2 => bin1 b i j M2 := by rw [ev]
@[simp] theorem s_mtd (m : Md) (o : E) (es : Es) : ev cf (.mtd m o es) σ M = (ev cf o σ M).bind fun x M1 => if isLst M1 x then (evs cf es σ M1).bind fun xs M2 => mtd1 m x xs M2 else .bad := by rw [ev]
@[simp] theorem s_joinv (a e : E) : ev cf (.joinv a e) σ M = (ev cf a σ M).bind fun x M1 => match x with
    | .str sep => (ev cf e σ M1).bind fun v M2 => match v with
      | .ref n => match M2[n]? with
        | some (.lst xs) => match strsOf xs with
          | some zs => if (zs.map List.length).sum + zs.length * sep.length ≤ LIM then .ok (.str (joined sep zs)) M2 else .bad
          | none => .bad
        | _ => .bad
      | _ => .bad
    | _ => .bad := by rw [ev] <;> rfl
@[simp] theorem x_rais (c : Nat) : ex cf (.rais c) σ M = .exc ⟨c, none⟩ σ M := by rw [ex]
@[simp] theorem x_tri (b : Ss) (hs : Hs) : ex cf (.tri b hs) σ M = match exs cf b σ M with
    | .exc x σ1 M1 => hand cf hs x σ1 M1
    | r => r := by rw [ex] <;> rfl
@[simp] theorem h_nil (x : Exc) : hand cf .nil x σ M = .exc x σ M := by rw [hand]
@[simp] theorem h_cons (c : Nat) (b : Ss) (hs : Hs) (x : Exc) : hand cf (.cons c b hs) x σ M = if cf.sub x.cls c then (exs cf b σ M).calm else hand cf hs x σ M := by rw [hand]
end
end Mi
end MiSimpS

section MiLoopS
set_option Elab.async false
set_option linter.all false
set_option maxRecDepth 100000
/-! loops by what holds ahead of each turn -/
namespace Mi
theorem rounds_nil0 {f : Val → St → Store → Out} {all : List Val} {σ : St} {M : Store} : rounds f all [] [] σ M = .nx σ M := by unfold rounds; rw [if_pos (show still M all [] from True.intro)]
theorem rounds_cons0 {f : Val → St → Store → Out} {all : List Val} {x : Val} {xs : List Val} {σ : St} {M : Store} : rounds f all [] (x :: xs) σ M = (f x σ M).turn fun σ1 M1 => rounds f all [] xs σ1 M1 := by
  conv => lhs; unfold rounds
  rw [if_pos (show still M all [] from True.intro)]
theorem rounds_gen {f : Val → St → Store → Out} {all : List Val} (P : List Val → St → Store → Prop) (R : Out → Prop)
    (step : ∀ x xs σ M, P (x :: xs) σ M → (∃ σ' M', (f x σ M = .nx σ' M' ∨ f x σ M = .cnt σ' M') ∧ P xs σ' M') ∨ (∃ v M', f x σ M = .ret v M' ∧ R (.ret v M')) ∨ (∃ c σ' M', f x σ M = .exc c σ' M' ∧ R (.exc c σ' M')) ∨ ∃ σ' M', f x σ M = .brk σ' M' ∧ R (.nx σ' M'))
    (fin : ∀ σ M, P [] σ M → R (.nx σ M)) : ∀ xs σ M, P xs σ M → R (rounds f all [] xs σ M)
  | [], σ, M, h => by rw [rounds_nil0]; exact fin σ M h
  | x :: xs, σ, M, h => by
    rw [rounds_cons0]
    rcases step x xs σ M h with ⟨σ', M', e, p⟩ | ⟨v, M', e, p⟩ | ⟨c, σ', M', e, p⟩ | ⟨σ', M', e, p⟩
    · rcases e with e | e
      · rw [e, Out.turn_nx]; exact rounds_gen P R step fin xs σ' M' p
      · rw [e, Out.turn_cnt]; exact rounds_gen P R step fin xs σ' M' p
    · rw [e, Out.turn_ret]; exact p
    · rw [e, Out.turn_exc]; exact p
    · rw [e, Out.turn_brk]; exact p
/-- a loop that runs to its end -/
theorem rounds_on {f : Val → St → Store → Out} {all : List Val} (P : List Val → St → Store → Prop)
    (step : ∀ x xs σ M, P (x :: xs) σ M → ∃ σ' M', f x σ M = .nx σ' M' ∧ P xs σ' M') : ∀ xs σ M, P xs σ M → ∃ σ' M', rounds f all [] xs σ M = .nx σ' M' ∧ P [] σ' M'
  | [], σ, M, h => ⟨σ, M, rounds_nil0, h⟩
  | x :: xs, σ, M, h => by
    obtain ⟨σ1, M1, e, p⟩ := step x xs σ M h
    obtain ⟨σ2, M2, e2, p2⟩ := rounds_on (f := f) (all := all) P step xs σ1 M1 p
    exact ⟨σ2, M2, by rw [rounds_cons0, e, Out.turn_nx, e2], p2⟩
noncomputable def lpF (cf : Cf) (t : Tg) (b : Ss) : Val → St → Store → Out := fun x σ1 M2 => match put t x σ1 with
  | some σ2 => exs cf b σ2 M2
  | none => .bad
theorem lpF_one (cf : Cf) (i : Nat) (b : Ss) (x : Val) (σ : St) (M : Store) : lpF cf (.one i) b x σ M = exs cf b (σ.set i (some x)) M := rfl
theorem x_loop0 {cf : Cf} {σ : St} {M : Store} (t : Tg) (src : Src) (b : Ss) : ex cf (.loop t src b) σ M = Out.on (evS cf src σ M) σ fun p M1 => rounds (lpF cf t b) p.1 p.2 p.1 σ M1 := by
  rw [ex] <;> rfl
theorem rng_nat {cf : Cf} {a : E} {σ : St} {M M0 : Store} {n : Nat} (ha : ev cf a σ M = .ok (.int (n : Nat)) M0) (h : n ≤ 100000) : evS cf (.rng a) σ M = .ok ((List.range n).map fun i => .int (i : Nat), []) M0 := by
  obtain ⟨k, hk⟩ : ∃ k : Int, k = (n : Nat) := ⟨_, rfl⟩
  rw [← hk] at ha
  have e : k.toNat = n := by omega
  have h1 : 0 ≤ k := by omega
  have h2 : k ≤ 100000 := by omega
  clear hk
  subst e
  rw [sS_rng, ha]
  have h1 : (decide (k < 2 ^ 62) && decide (-(2 ^ 62) ≤ k)) = true := by
    rw [Bool.and_eq_true]
    exact ⟨decide_eq_true (by omega), decide_eq_true (by omega)⟩
  simp only [Res.bind_ok, h1, if_true]
/-- for i in range(n), run to its end -/
theorem x_rng {cf : Cf} {σ : St} {M M0 : Store} {i n : Nat} {a : E} {b : Ss} (ha : ev cf a σ M = .ok (.int (n : Nat)) M0) (hn : n ≤ 100000) (P : Nat → St → Store → Prop) (h0 : P 0 σ M0) (step : ∀ j σ M, j < n → P j σ M → ∃ σ' M', exs cf b (σ.set i (some (.int (j : Nat)))) M = .nx σ' M' ∧ P (j + 1) σ' M') :
    ∃ σ' M', ex cf (.loop (.one i) (.rng a) b) σ M = .nx σ' M' ∧ P n σ' M' := by
  rw [x_loop0, rng_nat ha hn, Out.on_ok]
  have key : ∀ d j σ M, j + d = n → P j σ M → ∃ σ' M', rounds (lpF cf (.one i) b) ((List.range n).map fun i => .int (i : Nat)) [] ((List.range' j d).map fun i => Val.int (i : Nat)) σ M = .nx σ' M' ∧ P n σ' M' := by
    intro d
    induction d with
    | zero => intro j σ M e p; exact ⟨σ, M, rounds_nil0, by have : j = n := by omega
                                                            rw [← this]; exact p⟩
    | succ d ih =>
      intro j σ M e p
      obtain ⟨σ1, M1, e1, p1⟩ := step j σ M (by omega) p
      obtain ⟨σ2, M2, e2, p2⟩ := ih (j + 1) σ1 M1 (by omega) p1
      refine ⟨σ2, M2, ?_, p2⟩
      rw [List.range'_succ, List.map_cons, rounds_cons0, lpF_one, e1, Out.turn_nx, e2]
  have := key n 0 σ M0 (by omega) h0
  rw [← List.range_eq_range'] at this
  exact this
end Mi
end MiLoopS

section MiStepS
set_option Elab.async false
set_option linter.all false
set_option maxRecDepth 100000
/-! runs step by step: nothing is compared that holds a body -/
namespace Mi
section
variable {cf : Cf} {σ : St} {M M1 M2 : Store}
theorem and_t {a b : E} (h : ev cf a σ M = .ok (.bl true) M1) : ev cf (.and a b) σ M = ev cf b σ M1 := by
  rw [s_and, h, Res.bind_ok, show truth M1 (.bl true) = some true from rfl, ofOpt_some, Res.bind_ok, if_pos rfl]
theorem and_f {a b : E} (h : ev cf a σ M = .ok (.bl false) M1) : ev cf (.and a b) σ M = .ok (.bl false) M1 := by
  rw [s_and, h, Res.bind_ok, show truth M1 (.bl false) = some false from rfl, ofOpt_some, Res.bind_ok, if_neg Bool.false_ne_true]
theorem or_t {a b : E} (h : ev cf a σ M = .ok (.bl true) M1) : ev cf (.or a b) σ M = .ok (.bl true) M1 := by
  rw [s_or, h, Res.bind_ok, show truth M1 (.bl true) = some true from rfl, ofOpt_some, Res.bind_ok, if_pos rfl]
theorem or_f {a b : E} (h : ev cf a σ M = .ok (.bl false) M1) : ev cf (.or a b) σ M = ev cf b σ M1 := by
  rw [s_or, h, Res.bind_ok, show truth M1 (.bl false) = some false from rfl, ofOpt_some, Res.bind_ok, if_neg Bool.false_ne_true]
theorem not_s {a : E} {k : Bool} (h : ev cf a σ M = .ok (.bl k) M1) : ev cf (.not a) σ M = .ok (.bl (!k)) M1 := by
  rw [s_not, h, Res.bind_ok, show truth M1 (.bl k) = some k from rfl, ofOpt_some, Res.bind_ok]
theorem ite_t {c : E} {a b : Ss} (h : ev cf c σ M = .ok (.bl true) M1) : ex cf (.ite c a b) σ M = exs cf a σ M1 := by
  rw [x_ite, h, Out.on_ok, show truth M1 (.bl true) = some true from rfl, ofOpt_some, Out.on_ok, if_pos rfl]
theorem ite_f {c : E} {a b : Ss} (h : ev cf c σ M = .ok (.bl false) M1) : ex cf (.ite c a b) σ M = exs cf b σ M1 := by
  rw [x_ite, h, Out.on_ok, show truth M1 (.bl false) = some false from rfl, ofOpt_some, Out.on_ok, if_neg Bool.false_ne_true]
theorem eite_t {c a b : E} (h : ev cf c σ M = .ok (.bl true) M1) : ev cf (.ite c a b) σ M = ev cf a σ M1 := by
  rw [s_ite, h, Res.bind_ok, show truth M1 (.bl true) = some true from rfl, ofOpt_some, Res.bind_ok, if_pos rfl]
theorem eite_f {c a b : E} (h : ev cf c σ M = .ok (.bl false) M1) : ev cf (.ite c a b) σ M = ev cf b σ M1 := by
  rw [s_ite, h, Res.bind_ok, show truth M1 (.bl false) = some false from rfl, ofOpt_some, Res.bind_ok, if_neg Bool.false_ne_true]
theorem ret_s {e : E} {v : Val} (h : ev cf e σ M = .ok v M1) : ex cf (.ret e) σ M = .ret v M1 := by rw [x_ret, h, Out.on_ok]
theorem set_s {i : Nat} {e : E} {v : Val} (h : ev cf e σ M = .ok v M1) : ex cf (.set i e) σ M = .nx (σ.set i (some v)) M1 := by rw [x_set, h, Out.on_ok]
theorem expr_s {e : E} {v : Val} (h : ev cf e σ M = .ok v M1) : ex cf (.expr e) σ M = .nx σ M1 := by rw [x_expr, h, Out.on_ok]
theorem seq_nx {s : S} {ss : Ss} {σ1 : St} (h : ex cf s σ M = .nx σ1 M1) : exs cf (.cons s ss) σ M = exs cf ss σ1 M1 := by rw [xs_cons, h] <;> rfl
theorem seq_ret {s : S} {ss : Ss} {v : Val} (h : ex cf s σ M = .ret v M1) : exs cf (.cons s ss) σ M = .ret v M1 := by rw [xs_cons, h] <;> rfl
theorem call_1 {g : Nat} {a : E} {x : Val} (h : ev cf a σ M = .ok x M1) : ev cf (.call g (.cons a .nil)) σ M = cf.call g [x] M1 := by
  rw [s_call, ss_cons, h, Res.bind_ok, ss_nil, Res.bind_ok, Res.bind_ok]
theorem call_2 {g : Nat} {a b : E} {x y : Val} (h : ev cf a σ M = .ok x M1) (h2 : ev cf b σ M1 = .ok y M2) : ev cf (.call g (.cons a (.cons b .nil))) σ M = cf.call g [x, y] M2 := by
  rw [s_call, ss_cons, h, Res.bind_ok, ss_cons, h2, Res.bind_ok, ss_nil, Res.bind_ok, Res.bind_ok, Res.bind_ok]
theorem cmp_s {o : Cmp} {a b : E} {x y : Val} {k : Bool} (h : ev cf a σ M = .ok x M1) (h2 : ev cf b σ M1 = .ok y M2) (h3 : cmpV o x y M2 = some k) : ev cf (.cmp o a b) σ M = .ok (.bl k) M2 := by
  rw [s_cmp, h, Res.bind_ok, h2, Res.bind_ok, h3, Option.map_some, ofOpt_some]
theorem ix_s {a i : E} {x y v : Val} (h : ev cf a σ M = .ok x M1) (h2 : ev cf i σ M1 = .ok y M2) (h3 : ixV x y M2 = some v) : ev cf (.ix a i) σ M = .ok v M2 := by
  rw [s_ix, h, Res.bind_ok, h2, Res.bind_ok, h3, ofOpt_some]
theorem op_s {o : Op2} {a b : E} {x y v : Val} {M3 : Store} (h : ev cf a σ M = .ok x M1) (h2 : ev cf b σ M1 = .ok y M2) (h3 : op2 o x y M2 = .ok v M3) : ev cf (.op o a b) σ M = .ok v M3 := by
  rw [s_op, h, Res.bind_ok, h2, Res.bind_ok, h3]
theorem lst_s {l : L} {xs : List Val} (h : evL cf l σ M = .ok xs M1) : ev cf (.lst l) σ M = .ok (.ref M1.length) (M1 ++ [.lst xs]) := by
  rw [s_lst, h, Res.bind_ok]
theorem back_s {f : Out} {v : Val} (h : f = .ret v M1) : back M f = .ok v M1 := by rw [h, back_ret]
theorem disp_1 {a : E} {x : Val} (h : ev cf a σ M = .ok x M1) : evs cf (.cons a .nil) σ M = .ok [x] M1 := by
  rw [ss_cons, h, Res.bind_ok, ss_nil, Res.bind_ok]
theorem disp_c {a : E} {es : Es} {x : Val} {xs : List Val} (h : ev cf a σ M = .ok x M1) (h2 : evs cf es σ M1 = .ok xs M2) : evs cf (.cons a es) σ M = .ok (x :: xs) M2 := by
  rw [ss_cons, h, Res.bind_ok, h2, Res.bind_ok]
theorem tup_s {es : Es} {xs : List Val} (h : evs cf es σ M = .ok xs M1) (hl : xs.length ≤ 1000) : ev cf (.tup es) σ M = .ok (.tup xs) M1 := by
  rw [s_tup, h, Res.bind_ok, if_pos (by rw [lim_val]; omega)]
end
theorem eq_bl (a b : Bool) (M : Store) : cmpV .eq (.bl a) (.bl b) M = some (a == b) := by cases a <;> cases b <;> rfl
theorem ne_bl (a b : Bool) (M : Store) : cmpV .ne (.bl a) (.bl b) M = some (a != b) := by cases a <;> cases b <;> rfl
theorem eq_int (i j : Int) (M : Store) : cmpV .eq (.int i) (.int j) M = some (i == j) := rfl
theorem ne_int (i j : Int) (M : Store) : cmpV .ne (.int i) (.int j) M = some (!(i == j)) := rfl
theorem eq_str (s t : List Nat) (M : Store) : cmpV .eq (.str s) (.str t) M = some (s == t) := rfl
end Mi
end MiStepS

section MiCmpS
set_option Elab.async false
set_option linter.all false
set_option maxRecDepth 100000
/-! comparisons of plain values -/
namespace Mi
variable {M : Store}
@[simp] theorem cm_eq_ii (i j : Int) : cmpV .eq (.int i) (.int j) M = some (i == j) := rfl
@[simp] theorem cm_ne_ii (i j : Int) : cmpV .ne (.int i) (.int j) M = some (!(i == j)) := rfl
@[simp] theorem cm_lt_ii (i j : Int) : cmpV .lt (.int i) (.int j) M = some (decide (i < j)) := rfl
@[simp] theorem cm_le_ii (i j : Int) : cmpV .le (.int i) (.int j) M = some (decide (i ≤ j)) := rfl
@[simp] theorem cm_gt_ii (i j : Int) : cmpV .gt (.int i) (.int j) M = some (decide (j < i)) := rfl
@[simp] theorem cm_ge_ii (i j : Int) : cmpV .ge (.int i) (.int j) M = some (decide (j ≤ i)) := rfl
@[simp] theorem cm_eq_ss (a b : List Nat) : cmpV .eq (.str a) (.str b) M = some (a == b) := rfl
@[simp] theorem cm_ne_ss (a b : List Nat) : cmpV .ne (.str a) (.str b) M = some (!(a == b)) := rfl
@[simp] theorem cm_lt_ss (a b : List Nat) : cmpV .lt (.str a) (.str b) M = some (decide (a < b)) := rfl
theorem cm_le_ss (a b : List Nat) : cmpV .le (.str a) (.str b) M = some (!decide (b < a)) := rfl
@[simp] theorem cm_eq_bb (a b : Bool) : cmpV .eq (.bl a) (.bl b) M = some (a == b) := rfl
@[simp] theorem cm_ne_bb (a b : Bool) : cmpV .ne (.bl a) (.bl b) M = some (!(a == b)) := rfl
@[simp] theorem cm_isN (a : Val) : cmpV .isN a .non M = some (isNon a) := rfl
@[simp] theorem cm_isNotN (a : Val) : cmpV .isNotN a .non M = some (!isNon a) := rfl
@[simp] theorem cm_in_sign (c : Nat) (y : List Nat) : cmpV .inn (.str [c]) (.str y) M = some (decide (c ∈ y)) := rfl
@[simp] theorem cm_notIn_sign (c : Nat) (y : List Nat) : cmpV .notIn (.str [c]) (.str y) M = some (!decide (c ∈ y)) := rfl
theorem lt_one (a c : Nat) : ([c] < [a]) ↔ c < a := by
  rw [List.cons_lt_cons_iff]
  constructor
  · rintro (h | ⟨_, h⟩)
    · exact h
    · cases h
  · exact .inl
@[simp] theorem cm_le_11 (a c : Nat) : cmpV .le (.str [a]) (.str [c]) M = some (decide (a ≤ c)) := by
  rw [cm_le_ss]
  congr 1
  by_cases h : c < a
  · rw [decide_eq_true ((lt_one a c).mpr h), decide_eq_false (by omega)]; rfl
  · rw [decide_eq_false (fun z => h ((lt_one a c).mp z)), decide_eq_true (by omega)]; rfl
theorem cm_eq_tt (xs ys : List Val) (y : Val) : cmpV .eq (.tup xs) (.tup (y :: ys)) M = if noRef (.tup xs) && noRef (.tup (y :: ys)) && decide (depth (.tup xs) ≤ 60) && decide (depth (.tup (y :: ys)) ≤ 60) then some (eqV (.tup xs) (.tup (y :: ys))) else none := rfl
theorem cm_ne_tt (xs ys : List Val) (y : Val) : cmpV .ne (.tup xs) (.tup (y :: ys)) M = if noRef (.tup xs) && noRef (.tup (y :: ys)) && decide (depth (.tup xs) ≤ 60) && decide (depth (.tup (y :: ys)) ≤ 60) then some (!eqV (.tup xs) (.tup (y :: ys))) else none := rfl
theorem cm_in_tt (x : Val) (ys : List Val) (h : (∃ i, x = .int i) ∨ x = .non ∨ (∃ b, x = .bl b) ∨ ∃ s, x = .str s) : cmpV .inn x (.tup ys) M = if flatB x && ys.all flatB then some (ys.any fun y => eqV y x) else none := by
  rcases h with ⟨i, rfl⟩ | rfl | ⟨b, rfl⟩ | ⟨s, rfl⟩
  · rfl
  · rfl
  · rfl
  · cases s with
    | nil => rfl
    | cons a s => cases s <;> rfl
end Mi
end MiCmpS

section K3DataS
set_option Elab.async false
set_option linter.all false
set_option maxRecDepth 100000
namespace K3
open PySem L2 Mi
def top (i : Nat) : Stmt := PySem.Challenge.pw_leasefiles_k03_tables_judged_and_read.main.body.getD i (.Pass ⟨0, 0, 0, 0⟩)
def dis0 : List DI := [
  ⟨"is_whole", top 11, ["thing"], 1⟩,
  ⟨"is_whole_from", top 12, ["thing", "least"], 2⟩,
  ⟨"is_client", top 15, ["thing"], 1⟩,
  ⟨"has_plain_signs", top 16, ["text"], 1⟩,
  ⟨"is_name", top 17, ["thing", "sign"], 1⟩,
  ⟨"is_text", top 18, ["thing"], 1⟩,
  ⟨"is_stamp", top 19, ["thing", "count", "client", "number"], 1⟩,
  ⟨"is_worded", top 25, ["thing"], 1⟩,
  ⟨"is_splice", top 26, ["at", "gone", "text"], 3⟩,
  ⟨"is_text_edit", top 27, ["thing", "word", "parts"], 1⟩,
  ⟨"is_edit", top 28, ["thing", "word", "parts"], 1⟩,
  ⟨"_law_mixed", top 47, ["_law_number_here"], 1⟩,
  ⟨"_law_well", top 48, ["_law_script", "_law_cell"], 1⟩,
  ⟨"_law_filled", top 49, ["_law_well_here", "_law_cell"], 1⟩,
  ⟨"_law_draw", top 50, ["_law_well_here", "_law_many", "_law_told_here"], 2⟩,
  ⟨"_law_number", top 51, ["_law_well_here", "_law_kind_here"], 1⟩,
  ⟨"_law_signs", top 52, ["_law_signs_here"], 0⟩,
  ⟨"_law_string", top 53, ["_law_well_here", "_law_many", "_law_signs_here", "_law_k"], 2⟩,
  ⟨"_law_name", top 54, ["_law_well_here", "_law_many", "_law_k"], 1⟩,
  ⟨"_law_any", top 56, ["_law_well_here", "_law_deep", "_law_kind_here", "_law_items", "_law_k"], 2⟩
]
def dis1 : List DI := [
  ⟨"_law_nodes", top 57, ["_law_thing_here", "_law_item"], 1⟩,
  ⟨"_law_changed", top 58, ["_law_thing_here", "_law_well_here", "_law_kind_here", "_law_turned"], 2⟩,
  ⟨"_law_spoilt", top 59, ["_law_thing_here", "_law_at", "_law_well_here", "_law_k", "_law_size"], 3⟩,
  ⟨"_law_text", top 60, ["_law_well_here", "_law_kind_here"], 1⟩,
  ⟨"_law_client", top 62, ["_law_well_here"], 1⟩,
  ⟨"_law_stamp", top 63, ["_law_well_here"], 1⟩,
  ⟨"_law_edit", top 67, ["_law_well_here", "_law_kind_here"], 1⟩,
  ⟨"_law_count", top 68, ["_law_thing_here"], 1⟩,
  ⟨"_law_long", top 69, ["_law_thing_here", "_law_many"], 2⟩,
  ⟨"_law_name_fits", top 70, ["_law_thing_here", "_law_sign"], 1⟩,
  ⟨"_law_text_fits", top 71, ["_law_thing_here", "_law_sign"], 1⟩,
  ⟨"_law_client_fits", top 72, ["_law_thing_here"], 1⟩,
  ⟨"_law_pair_fits", top 73, ["_law_thing_here"], 1⟩,
  ⟨"_law_stamp_fits", top 74, ["_law_thing_here", "_law_part"], 1⟩,
  ⟨"_law_edit_fits", top 76, ["_law_thing_here", "_law_word_here", "_law_rest"], 1⟩,
  ⟨"_law_thing", top 95, ["_law_well_here", "_law_table_here", "_law_kind_here", "_law_thing_here", "_law_k"], 2⟩,
  ⟨"is_number", top 14, ["thing"], 1⟩,
  ⟨"is_base", top 20, ["thing"], 1⟩,
  ⟨"is_text_or_none", top 21, ["thing"], 1⟩,
  ⟨"is_kind", top 22, ["thing"], 1⟩
]
def dis2 : List DI := [
  ⟨"is_done_word", top 23, ["thing"], 1⟩,
  ⟨"is_talk", top 24, ["thing"], 1⟩,
  ⟨"is_part", top 30, ["thing", "part", "judge"], 2⟩,
  ⟨"has_form", top 31, ["thing", "form", "item", "part"], 2⟩,
  ⟨"is_ascending", top 33, ["items", "first", "second"], 1⟩,
  ⟨"is_rows", top 34, ["thing", "form", "many", "row"], 3⟩,
  ⟨"row_of", top 35, ["rows", "key", "row"], 2⟩,
  ⟨"is_whole", top 11, ["thing"], 1⟩,
  ⟨"is_whole", top 11, ["thing"], 1⟩,
  ⟨"is_files", top 42, ["thing"], 1⟩,
  ⟨"is_table", top 43, ["thing", "clock", "files", "leases", "done", "asides"], 1⟩,
  ⟨"is_whole", top 11, ["thing"], 1⟩,
  ⟨"is_whole", top 11, ["thing"], 1⟩,
  ⟨"bare_table", top 41, [], 0⟩,
  ⟨"file_at", top 44, ["table", "name", "file"], 2⟩,
  ⟨"file_of", top 45, ["table", "name"], 2⟩,
  ⟨"is_whole", top 11, ["thing"], 1⟩,
  ⟨"is_whole", top 11, ["thing"], 1⟩,
  ⟨"is_whole", top 11, ["thing"], 1⟩,
  ⟨"is_whole", top 11, ["thing"], 1⟩
]
def dis3 : List DI := [
  ⟨"is_whole", top 11, ["thing"], 1⟩,
  ⟨"is_whole", top 11, ["thing"], 1⟩,
  ⟨"is_whole", top 11, ["thing"], 1⟩,
  ⟨"is_whole", top 11, ["thing"], 1⟩,
  ⟨"is_whole", top 11, ["thing"], 1⟩,
  ⟨"is_whole", top 11, ["thing"], 1⟩,
  ⟨"is_whole", top 11, ["thing"], 1⟩,
  ⟨"is_whole", top 11, ["thing"], 1⟩,
  ⟨"is_whole", top 11, ["thing"], 1⟩,
  ⟨"is_whole", top 11, ["thing"], 1⟩,
  ⟨"is_whole", top 11, ["thing"], 1⟩,
  ⟨"is_whole", top 11, ["thing"], 1⟩,
  ⟨"_law_unlike", top 55, ["_law_things", "_law_found", "_law_thing_here"], 1⟩,
  ⟨"_law_content", top 61, ["_law_well_here"], 1⟩,
  ⟨"_law_base", top 64, ["_law_well_here"], 1⟩,
  ⟨"_law_kind", top 65, ["_law_well_here"], 1⟩,
  ⟨"_law_talk", top 66, ["_law_well_here"], 1⟩,
  ⟨"_law_base_fits", top 75, ["_law_thing_here"], 1⟩,
  ⟨"_law_rows_fit", top 77, ["_law_thing_here", "_law_fits", "_law_size", "_law_k", "_law_row"], 3⟩,
  ⟨"_law_content_fits", top 78, ["_law_thing_here"], 1⟩
]
def dis4 : List DI := [
  ⟨"_law_kind_fits", top 79, ["_law_thing_here"], 1⟩,
  ⟨"_law_word_fits", top 80, ["_law_thing_here"], 1⟩,
  ⟨"_law_talk_fits", top 81, ["_law_thing_here"], 1⟩,
  ⟨"_law_file_fits", top 82, ["_law_row"], 1⟩,
  ⟨"_law_lease_fits", top 83, ["_law_row"], 1⟩,
  ⟨"_law_done_fits", top 84, ["_law_row"], 1⟩,
  ⟨"_law_aside_fits", top 85, ["_law_row"], 1⟩,
  ⟨"_law_table_fits", top 86, ["_law_thing_here"], 1⟩,
  ⟨"_law_pool", top 87, ["_law_well_here", "_law_many", "_law_k"], 1⟩,
  ⟨"_law_of", top 88, ["_law_well_here", "_law_names"], 2⟩,
  ⟨"_law_word", top 89, ["_law_well_here"], 1⟩,
  ⟨"_law_keyed", top 90, ["_law_rows", "_law_size", "_law_found", "_law_row", "_law_key"], 2⟩,
  ⟨"_law_lease_row", top 91, ["_law_well_here", "_law_names", "_law_clock", "_law_until"], 3⟩,
  ⟨"_law_aside_row", top 92, ["_law_well_here", "_law_names"], 2⟩,
  ⟨"_law_table", top 93, ["_law_well_here", "_law_names", "_law_clock", "_law_files", "_law_leases", "_law_done", "_law_k", "_law_asides", "_law_name_here"], 2⟩,
  ⟨"is_whole", top 11, ["thing"], 1⟩,
  ⟨"is_whole", top 11, ["thing"], 1⟩,
  ⟨"is_whole", top 11, ["thing"], 1⟩,
  ⟨"is_whole", top 11, ["thing"], 1⟩,
  ⟨"_law_alike", top 94, ["_law_told_here", "_law_due_here", "_law_k"], 2⟩
]
def dis5 : List DI := [
  ⟨"is_count", top 13, ["thing"], 1⟩,
  ⟨"_law_told", top 96, ["_law_thing_here", "_law_name_here", "_law_told_here"], 2⟩,
  ⟨"_law_due", top 97, ["_law_thing_here", "_law_name_here", "_law_right", "_law_row"], 3⟩,
  ⟨"_law_one", top 98, ["_law_well_here", "_law_names", "_law_table_here", "_law_thing_here", "_law_before", "_law_right", "_law_told_here", "_law_odd", "_law_name_here", "_law_found", "_law_due_here"], 1⟩,
  ⟨"law", top 99, ["_law_script", "_law_well_here", "_law_turn"], 1⟩
]
def dis : List DI := dis0 ++ dis1 ++ dis2 ++ dis3 ++ dis4 ++ dis5
def tab0 : List (Str × GI) := [
  ("is_whole", .fn 0 1),
  ("is_whole_from", .fn 1 2),
  ("is_client", .fn 2 1),
  ("has_plain_signs", .fn 3 1),
  ("is_name", .fn 4 1),
  ("is_text", .fn 5 1),
  ("is_stamp", .fn 6 1),
  ("is_worded", .fn 7 1),
  ("is_splice", .fn 8 3),
  ("is_text_edit", .fn 9 1),
  ("is_edit", .fn 10 1),
  ("_law_mixed", .fn 11 1),
  ("_law_well", .fn 12 1),
  ("_law_filled", .fn 13 1),
  ("_law_draw", .fn 14 2),
  ("_law_number", .fn 15 1),
  ("_law_signs", .fn 16 0),
  ("_law_string", .fn 17 2),
  ("_law_name", .fn 18 1),
  ("_law_any", .fn 19 2)
]
def tab1 : List (Str × GI) := [
  ("_law_nodes", .fn 20 1),
  ("_law_changed", .fn 21 2),
  ("_law_spoilt", .fn 22 3),
  ("_law_text", .fn 23 1),
  ("_law_client", .fn 24 1),
  ("_law_stamp", .fn 25 1),
  ("_law_edit", .fn 26 1),
  ("_law_count", .fn 27 1),
  ("_law_long", .fn 28 2),
  ("_law_name_fits", .fn 29 1),
  ("_law_text_fits", .fn 30 1),
  ("_law_client_fits", .fn 31 1),
  ("_law_pair_fits", .fn 32 1),
  ("_law_stamp_fits", .fn 33 1),
  ("_law_edit_fits", .fn 34 1),
  ("_law_thing", .fn 35 2),
  ("is_number", .fn 36 1),
  ("is_base", .fn 37 1),
  ("is_text_or_none", .fn 38 1),
  ("is_kind", .fn 39 1)
]
def tab2 : List (Str × GI) := [
  ("is_done_word", .fn 40 1),
  ("is_talk", .fn 41 1),
  ("is_part", .fn 42 2),
  ("has_form", .fn 43 2),
  ("is_ascending", .fn 44 1),
  ("is_rows", .fn 45 3),
  ("row_of", .fn 46 2),
  ("is_files", .fn 49 1),
  ("is_table", .fn 50 1),
  ("bare_table", .fn 53 0),
  ("file_at", .fn 54 2),
  ("file_of", .fn 55 2),
  ("_law_unlike", .fn 72 1),
  ("_law_content", .fn 73 1),
  ("_law_base", .fn 74 1),
  ("_law_kind", .fn 75 1),
  ("_law_talk", .fn 76 1),
  ("_law_base_fits", .fn 77 1),
  ("_law_rows_fit", .fn 78 3),
  ("_law_content_fits", .fn 79 1)
]
def tab3 : List (Str × GI) := [
  ("_law_kind_fits", .fn 80 1),
  ("_law_word_fits", .fn 81 1),
  ("_law_talk_fits", .fn 82 1),
  ("_law_file_fits", .fn 83 1),
  ("_law_lease_fits", .fn 84 1),
  ("_law_done_fits", .fn 85 1),
  ("_law_aside_fits", .fn 86 1),
  ("_law_table_fits", .fn 87 1),
  ("_law_pool", .fn 88 1),
  ("_law_of", .fn 89 2),
  ("_law_word", .fn 90 1),
  ("_law_keyed", .fn 91 2),
  ("_law_lease_row", .fn 92 3),
  ("_law_aside_row", .fn 93 2),
  ("_law_table", .fn 94 2),
  ("_law_alike", .fn 99 2),
  ("is_count", .fn 100 1),
  ("_law_told", .fn 101 2),
  ("_law_due", .fn 102 3),
  ("_law_one", .fn 103 1)
]
def tab4 : List (Str × GI) := [
  ("law", .fn 104 1),
  ("LAST_CLIENT", .con (.int (9))),
  ("LONGEST_NAME", .con (.int (8))),
  ("LONGEST_TEXT", .con (.int (96))),
  ("FIRST_STAMP", .con (.tup [(.int (0)), (.int (0)), (.int (0))])),
  ("KINDS", .con (.tup [(.str [114, 101, 97, 100]), (.str [119, 114, 105, 116, 101])])),
  ("DONE_WORDS", .con (.tup [(.str [97, 112, 112, 108, 105, 101, 100]), (.str [97, 115, 105, 100, 101]), (.str [117, 110, 102, 105, 116]), (.str [100, 114, 111, 112, 112, 101, 100])])),
  ("DONE", .con (.tup [(.str [99, 108, 105, 101, 110, 116]), (.str [110, 117, 109, 98, 101, 114]), (.str [119, 111, 114, 100]), (.str [115, 116, 97, 109, 112])])),
  ("ASIDE", .con (.tup [(.str [99, 108, 105, 101, 110, 116]), (.str [110, 117, 109, 98, 101, 114]), (.str [110, 97, 109, 101]), (.str [98, 97, 115, 101]), (.str [101, 100, 105, 116])])),
  ("FILE", .con (.tup [(.str [110, 97, 109, 101]), (.str [115, 116, 97, 109, 112]), (.str [116, 101, 120, 116])])),
  ("LEASE", .con (.tup [(.str [110, 97, 109, 101]), (.str [99, 108, 105, 101, 110, 116]), (.str [107, 105, 110, 100]), (.str [116, 97, 108, 107]), (.str [99, 111, 117, 110, 116])])),
  ("NoTable", .exc 0),
  ("NoName", .exc 1),
  ("LeaseError", .exc 2),
  ("int", .blt),
  ("range", .blt),
  ("isinstance", .blt),
  ("tuple", .blt),
  ("str", .blt),
  ("all", .blt)
]
def tab5 : List (Str × GI) := [
  ("bool", .blt),
  ("len", .blt),
  ("zip", .blt),
  ("sorted", .blt),
  ("max", .blt),
  ("list", .blt),
  ("sum", .blt),
  ("repr", .blt),
  ("JUDGES", .tab)
]
def tab : List (Str × GI) := tab0 ++ tab1 ++ tab2 ++ tab3 ++ tab4 ++ tab5
def tb0 : List (List Nat × Val) := [([99, 111, 117, 110, 116], (.fn "is_count")), ([110, 117, 109, 98, 101, 114], (.fn "is_number")), ([99, 108, 105, 101, 110, 116], (.fn "is_client")), ([110, 97, 109, 101], (.fn "is_name")), ([116, 101, 120, 116], (.fn "is_text_or_none")), ([115, 116, 97, 109, 112], (.fn "is_stamp")), ([98, 97, 115, 101], (.fn "is_base")), ([101, 100, 105, 116], (.fn "is_edit")), ([107, 105, 110, 100], (.fn "is_kind")), ([116, 97, 108, 107], (.fn "is_talk")), ([119, 111, 114, 100], (.fn "is_done_word"))]
def tabs : List (Str × List (List Nat × Val)) := [("JUDGES", tb0)]
def pi : PI0 := ⟨dis, tab, ["NoTable", "NoName", "LeaseError"], [("NoTable", "NoTable"), ("NoTable", "LeaseError"), ("NoName", "NoName"), ("NoName", "LeaseError"), ("LeaseError", "LeaseError")], tabs⟩
end K3
end K3DataS

section K3CodeS
set_option Elab.async false
set_option linter.all false
set_option maxRecDepth 100000
namespace K3
open PySem L2 Mi
def b0 : Ss := (.cons (.ret (.and (.isi (.var 0) .int) (.not (.isi (.var 0) .bool)))) .nil)
def d0 : DI := ⟨"is_whole", top 11, ["thing"], 1⟩
def b1 : Ss := (.cons (.ret (.and (.call 0 (.cons (.var 0) .nil)) (.cmp .ge (.var 0) (.var 1)))) .nil)
def d1 : DI := ⟨"is_whole_from", top 12, ["thing", "least"], 2⟩
def b2 : Ss := (.cons (.ret (.and (.call 1 (.cons (.var 0) (.cons (.cst (.int 1)) .nil))) (.cmp .le (.var 0) (.cst (.int 9))))) .nil)
def d2 : DI := ⟨"is_client", top 15, ["thing"], 1⟩
def b3 : Ss := (.cons (.ret (.and (.mt .isascii (.var 0)) (.mt .isprintable (.var 0)))) .nil)
def d3 : DI := ⟨"has_plain_signs", top 16, ["text"], 1⟩
def b4 : Ss := (.cons (.ite (.or (.not (.isi (.var 0) .str)) (.not (.chain .le .le (.cst (.int 1)) (.bi .len (.var 0)) (.cst (.int 8))))) (.cons (.ret (.cst (.bl false))) .nil) .nil) (.cons (.ret (.bil .all (.comp [1] (.one 1) (.seq (.var 0)) .nil (.chain .le .le (.cst (.str [97])) (.var 1) (.cst (.str [122])))))) .nil))
def d4 : DI := ⟨"is_name", top 17, ["thing", "sign"], 1⟩
def b5 : Ss := (.cons (.ret (.and (.isi (.var 0) .str) (.and (.cmp .le (.bi .len (.var 0)) (.cst (.int 96))) (.call 3 (.cons (.var 0) .nil))))) .nil)
def d5 : DI := ⟨"is_text", top 18, ["thing"], 1⟩
def b6 : Ss := (.cons (.ite (.or (.not (.isi (.var 0) .tuple)) (.cmp .ne (.bi .len (.var 0)) (.cst (.int 3)))) (.cons (.ret (.cst (.bl false))) .nil) .nil) (.cons (.unp [1, 2, 3] (.var 0)) (.cons (.ite (.and (.call 1 (.cons (.var 1) (.cons (.cst (.int 1)) .nil))) (.and (.call 2 (.cons (.var 2) .nil)) (.call 1 (.cons (.var 3) (.cons (.cst (.int 1)) .nil))))) (.cons (.ret (.cst (.bl true))) .nil) .nil) (.cons (.ret (.and (.call 0 (.cons (.var 1) .nil)) (.and (.call 0 (.cons (.var 2) .nil)) (.and (.call 0 (.cons (.var 3) .nil)) (.cmp .eq (.var 0) (.cst (.tup [(.int 0), (.int 0), (.int 0)]))))))) .nil))))
def d6 : DI := ⟨"is_stamp", top 19, ["thing", "count", "client", "number"], 1⟩
def b7 : Ss := (.cons (.ret (.and (.isi (.var 0) .tuple) (.and (.cmp .gt (.bi .len (.var 0)) (.cst (.int 0))) (.isi (.ix (.var 0) (.cst (.int 0))) .str)))) .nil)
def d7 : DI := ⟨"is_worded", top 25, ["thing"], 1⟩
def b8 : Ss := (.cons (.ret (.and (.call 1 (.cons (.var 0) (.cons (.cst (.int 0)) .nil))) (.and (.call 1 (.cons (.var 1) (.cons (.cst (.int 0)) .nil))) (.call 5 (.cons (.var 2) .nil))))) .nil)
def d8 : DI := ⟨"is_splice", top 26, ["at", "gone", "text"], 3⟩
def b9 : Ss := (.cons (.ite (.not (.call 7 (.cons (.var 0) .nil))) (.cons (.ret (.cst (.bl false))) .nil) .nil) (.cons (.par 1 2 (.ix (.var 0) (.cst (.int 0))) (.sl (.var 0) (.some (.cst (.int 1))) .none)) (.cons (.ite (.cmp .eq (.var 1) (.cst (.str [112, 117, 116]))) (.cons (.ret (.and (.cmp .eq (.bi .len (.var 2)) (.cst (.int 1))) (.call 5 (.cons (.ix (.var 2) (.cst (.int 0))) .nil)))) .nil) .nil) (.cons (.ite (.cmp .eq (.var 1) (.cst (.str [115, 112, 108, 105, 99, 101]))) (.cons (.ret (.and (.cmp .eq (.bi .len (.var 2)) (.cst (.int 3))) (.call 8 (.cons (.ix (.var 2) (.cst (.int 0))) (.cons (.ix (.var 2) (.cst (.int 1))) (.cons (.ix (.var 2) (.cst (.int 2))) .nil)))))) .nil) .nil) (.cons (.ret (.and (.cmp .eq (.var 1) (.cst (.str [114, 101, 109, 111, 118, 101]))) (.cmp .eq (.bi .len (.var 2)) (.cst (.int 0))))) .nil)))))
def d9 : DI := ⟨"is_text_edit", top 27, ["thing", "word", "parts"], 1⟩
def b10 : Ss := (.cons (.ite (.call 9 (.cons (.var 0) .nil)) (.cons (.ret (.cst (.bl true))) .nil) .nil) (.cons (.ite (.not (.call 7 (.cons (.var 0) .nil))) (.cons (.ret (.cst (.bl false))) .nil) .nil) (.cons (.par 1 2 (.ix (.var 0) (.cst (.int 0))) (.sl (.var 0) (.some (.cst (.int 1))) .none)) (.cons (.ite (.cmp .eq (.var 1) (.cst (.str [116, 97, 107, 101]))) (.cons (.ret (.and (.cmp .eq (.bi .len (.var 2)) (.cst (.int 1))) (.call 4 (.cons (.ix (.var 2) (.cst (.int 0))) .nil)))) .nil) .nil) (.cons (.ite (.or (.cmp .eq (.var 1) (.cst (.str [97, 100, 111, 112, 116]))) (.cmp .eq (.var 1) (.cst (.str [100, 114, 111, 112])))) (.cons (.ret (.and (.cmp .eq (.bi .len (.var 2)) (.cst (.int 2))) (.and (.call 2 (.cons (.ix (.var 2) (.cst (.int 0))) .nil)) (.call 1 (.cons (.ix (.var 2) (.cst (.int 1))) (.cons (.cst (.int 1)) .nil)))))) .nil) .nil) (.cons (.ret (.cst (.bl false))) .nil))))))
def d10 : DI := ⟨"is_edit", top 28, ["thing", "word", "parts"], 1⟩
def b11 : Ss := (.cons (.set 0 (.op .mod (.bi .int (.op .add (.op .mul (.var 0) (.cst (.int 48271))) (.cst (.int 11)))) (.cst (.int 2147483647)))) (.cons (.set 0 (.op .mod (.bi .int (.op .add (.op .mul (.var 0) (.op .add (.op .fdiv (.var 0) (.cst (.int 1009))) (.cst (.int 69621)))) (.cst (.int 7919)))) (.cst (.int 2147483647)))) (.cons (.ret (.op .add (.op .mul (.var 0) (.cst (.int 2147483399))) (.op .mod (.bi .int (.op .add (.op .mul (.var 0) (.op .add (.op .fdiv (.var 0) (.cst (.int 2003))) (.cst (.int 40692)))) (.cst (.int 104729)))) (.cst (.int 2147483399))))) .nil)))
def d11 : DI := ⟨"_law_mixed", top 47, ["_law_number_here"], 1⟩
def b12 : Ss := (.cons (.ret (.lst (.disp (.cons (.lst (.comp [1] (.one 1) (.seq (.sl (.var 0) .none (.some (.cst (.int 63))))) .nil (.bi .int (.var 1)))) (.cons (.cst (.int 0)) (.cons (.cst (.int 0)) (.cons (.cst (.int 1)) .nil))))))) .nil)
def d12 : DI := ⟨"_law_well", top 48, ["_law_script", "_law_cell"], 1⟩
def b13 : Ss := (.cons (.six (.var 0) (.cst (.int 1)) (.op .add (.ix (.var 0) (.cst (.int 1))) (.cst (.int 1)))) (.cons (.ite (.cmp .le (.ix (.var 0) (.cst (.int 1))) (.bi .len (.ix (.var 0) (.cst (.int 0))))) (.cons (.set 1 (.ix (.ix (.var 0) (.cst (.int 0))) (.op .sub (.ix (.var 0) (.cst (.int 1))) (.cst (.int 1))))) (.cons (.six (.var 0) (.cst (.int 3)) (.op .mod (.bi .int (.op .add (.op .add (.op .mul (.ix (.var 0) (.cst (.int 3))) (.cst (.int 69069))) (.var 1)) (.cst (.int 1)))) (.cst (.int 2147483629)))) (.cons (.ite (.cmp .ge (.var 1) (.op .pow (.cst (.int 10)) (.cst (.int 18)))) (.cons (.ret (.var 1)) .nil) .nil) (.cons (.ret (.call 11 (.cons (.op .add (.var 1) (.op .mul (.cst (.int 7919)) (.ix (.var 0) (.cst (.int 1))))) .nil))) .nil)))) .nil) (.cons (.ret (.call 11 (.cons (.op .add (.ix (.var 0) (.cst (.int 3))) (.op .mul (.cst (.int 7919)) (.ix (.var 0) (.cst (.int 1))))) .nil))) .nil)))
def d13 : DI := ⟨"_law_filled", top 49, ["_law_well_here", "_law_cell"], 1⟩
def b14 : Ss := (.cons (.ite (.cmp .eq (.ix (.var 0) (.cst (.int 2))) (.cst (.int 0))) (.cons (.six (.var 0) (.cst (.int 2)) (.call 13 (.cons (.var 0) .nil))) .nil) .nil) (.cons (.set 2 (.op .mod (.bi .int (.ix (.var 0) (.cst (.int 2)))) (.var 1))) (.cons (.six (.var 0) (.cst (.int 2)) (.op .fdiv (.bi .int (.ix (.var 0) (.cst (.int 2)))) (.var 1))) (.cons (.ret (.var 2)) .nil))))
def d14 : DI := ⟨"_law_draw", top 50, ["_law_well_here", "_law_many", "_law_told_here"], 2⟩
def b15 : Ss := (.cons (.set 1 (.call 14 (.cons (.var 0) (.cons (.cst (.int 4)) .nil)))) (.cons (.ite (.cmp .eq (.var 1) (.cst (.int 3))) (.cons (.ret (.call 14 (.cons (.var 0) (.cons (.op .pow (.cst (.int 10)) (.cst (.int 11))) .nil)))) .nil) .nil) (.cons (.ret (.call 14 (.cons (.var 0) (.cons (.ixl (.disp (.cons (.cst (.int 3)) (.cons (.cst (.int 40)) (.cons (.op .pow (.cst (.int 10)) (.cst (.int 9))) .nil)))) (.var 1)) .nil)))) .nil)))
def d15 : DI := ⟨"_law_number", top 51, ["_law_well_here", "_law_kind_here"], 1⟩
def b16 : Ss := (.cons (.set 0 (.cst (.str [32, 33, 34, 35, 36, 38, 39, 40, 41, 42, 43, 44, 45, 46, 47, 48, 49, 50, 51, 52, 53, 54, 55, 56, 57, 58, 59, 60, 61, 62, 63, 64, 65, 66, 67, 68, 69, 70, 71, 72, 73, 74, 75, 76, 77, 78, 79, 80, 81, 82, 83, 84, 85, 86, 87, 88, 89, 90, 91, 92, 93, 94, 95, 96]))) (.cons (.ret (.op .add (.var 0) (.cst (.str [97, 98, 99, 100, 101, 102, 103, 104, 105, 106, 107, 108, 109, 110, 111, 112, 113, 114, 115, 116, 117, 118, 119, 120, 121, 122, 123, 124, 125, 126])))) .nil))
def d16 : DI := ⟨"_law_signs", top 52, ["_law_signs_here"], 0⟩
def b17 : Ss := (.cons (.set 2 (.call 16 .nil)) (.cons (.ret (.join (.cst (.str [])) (.comp [3] (.one 3) (.rng (.var 1)) .nil (.ix (.var 2) (.call 14 (.cons (.var 0) (.cons (.cst (.int 94)) .nil))))))) .nil))
def d17 : DI := ⟨"_law_string", top 53, ["_law_well_here", "_law_many", "_law_signs_here", "_law_k"], 2⟩
def b18 : Ss := (.cons (.set 1 (.op .add (.cst (.int 1)) (.call 14 (.cons (.var 0) (.cons (.cst (.int 2)) .nil))))) (.cons (.ite (.cmp .eq (.call 14 (.cons (.var 0) (.cons (.cst (.int 4)) .nil))) (.cst (.int 0))) (.cons (.set 1 (.op .add (.cst (.int 1)) (.call 14 (.cons (.var 0) (.cons (.cst (.int 8)) .nil))))) .nil) .nil) (.cons (.ret (.join (.cst (.str [])) (.comp [2] (.one 2) (.rng (.var 1)) .nil (.ix (.cst (.str [97, 98, 99, 100, 101, 102, 103, 104, 105, 106, 107, 108, 109, 110, 111, 112, 113, 114, 115, 116, 117, 118, 119, 120, 121, 122])) (.call 14 (.cons (.var 0) (.cons (.cst (.int 26)) .nil))))))) .nil)))
def d18 : DI := ⟨"_law_name", top 54, ["_law_well_here", "_law_many", "_law_k"], 1⟩
def b19 : Ss := (.cons (.set 2 (.call 14 (.cons (.var 0) (.cons (.cst (.int 12)) .nil)))) (.cons (.ite (.cmp .eq (.var 1) (.cst (.int 0))) (.cons (.set 2 (.op .mod (.bi .int (.var 2)) (.cst (.int 6)))) .nil) .nil) (.cons (.ite (.cmp .eq (.var 2) (.cst (.int 0))) (.cons (.ret (.op .sub (.call 14 (.cons (.var 0) (.cons (.cst (.int 120)) .nil))) (.cst (.int 20)))) .nil) .nil) (.cons (.ite (.cmp .eq (.var 2) (.cst (.int 1))) (.cons (.ret (.op .sub (.neg (.cst (.int 1))) (.call 15 (.cons (.var 0) .nil)))) .nil) .nil) (.cons (.ite (.cmp .eq (.var 2) (.cst (.int 2))) (.cons (.ret (.cmp .eq (.call 14 (.cons (.var 0) (.cons (.cst (.int 2)) .nil))) (.cst (.int 1)))) .nil) .nil) (.cons (.ite (.cmp .eq (.var 2) (.cst (.int 3))) (.cons (.ret (.cst .non)) .nil) .nil) (.cons (.ite (.cmp .eq (.var 2) (.cst (.int 4))) (.cons (.ret (.call 17 (.cons (.var 0) (.cons (.call 14 (.cons (.var 0) (.cons (.cst (.int 11)) .nil))) .nil)))) .nil) .nil) (.cons (.ite (.cmp .eq (.var 2) (.cst (.int 5))) (.cons (.ret (.op .add (.call 18 (.cons (.var 0) .nil)) (.ixl (.disp (.cons (.cst (.str [])) (.cons (.cst (.str [10])) (.cons (.cst (.str [65])) (.cons (.cst (.str [48])) .nil))))) (.call 14 (.cons (.var 0) (.cons (.cst (.int 4)) .nil)))))) .nil) .nil) (.cons (.set 3 (.lst (.comp [4] (.one 4) (.rng (.call 14 (.cons (.var 0) (.cons (.cst (.int 4)) .nil)))) .nil (.call 19 (.cons (.var 0) (.cons (.op .sub (.var 1) (.cst (.int 1))) .nil)))))) (.cons (.ite (.cmp .le (.var 2) (.cst (.int 8))) (.cons (.ret (.bi .tuple (.var 3))) .nil) .nil) (.cons (.ite (.cmp .eq (.var 2) (.cst (.int 9))) (.cons (.ret (.var 3)) .nil) .nil) (.cons (.ite (.cmp .eq (.var 2) (.cst (.int 10))) (.cons (.ret (.dic (.cons (.cst (.str [97])) (.cons (.var 3) (.cons (.cst (.int 1)) (.cons (.cst .non) .nil)))))) .nil) .nil) (.cons (.ret (.newx 0)) .nil)))))))))))))
def d19 : DI := ⟨"_law_any", top 56, ["_law_well_here", "_law_deep", "_law_kind_here", "_law_items", "_law_k"], 2⟩
def b20 : Ss := (.cons (.ite (.isi (.var 0) .tuple) (.cons (.ret (.op .add (.cst (.int 1)) (.bil .sum (.comp [1] (.one 1) (.seq (.var 0)) .nil (.call 20 (.cons (.var 1) .nil)))))) .nil) .nil) (.cons (.ret (.cst (.int 1))) .nil))
def d20 : DI := ⟨"_law_nodes", top 57, ["_law_thing_here", "_law_item"], 1⟩
def b21 : Ss := (.cons (.set 2 (.call 14 (.cons (.var 1) (.cons (.cst (.int 8)) .nil)))) (.cons (.ite (.cmp .eq (.var 2) (.cst (.int 0))) (.cons (.ret (.call 19 (.cons (.var 1) (.cons (.cst (.int 1)) .nil)))) .nil) .nil) (.cons (.ite (.or (.isi (.var 0) .bool) (.cmp .isN (.var 0) (.cst .non))) (.cons (.ret (.ixl (.disp (.cons (.cst (.int 0)) (.cons (.cst (.int 1)) (.cons (.tup .nil) (.cons (.cst (.str [])) (.cons (.tup (.cons (.cst (.int 0)) (.cons (.cst (.int 0)) .nil))) (.cons (.lst (.disp .nil)) (.cons (.tup (.cons (.cst .non) .nil)) .nil)))))))) (.op .sub (.var 2) (.cst (.int 1))))) .nil) .nil) (.cons (.ite (.isi (.var 0) .int) (.cons (.ret (.ixl (.disp (.cons (.op .add (.var 0) (.cst (.int 1))) (.cons (.op .sub (.var 0) (.cst (.int 1))) (.cons (.neg (.var 0)) (.cons (.cmp .ge (.var 0) (.cst (.int 1))) (.cons (.cst (.int 0)) (.cons (.cst .non) (.cons (.tup (.cons (.var 0) .nil)) .nil)))))))) (.op .sub (.var 2) (.cst (.int 1))))) .nil) .nil) (.cons (.ite (.isi (.var 0) .str) (.cons (.ret (.ixl (.disp (.cons (.op .add (.var 0) (.cst (.str [97]))) (.cons (.sl (.var 0) (.some (.cst (.int 1))) .none) (.cons (.mt .upper (.var 0)) (.cons (.op .add (.cst (.str [32])) (.var 0)) (.cons (.cst (.str [])) (.cons (.op .add (.var 0) (.cst (.str [10]))) (.cons (.lst (.disp (.cons (.var 0) .nil))) .nil)))))))) (.op .sub (.var 2) (.cst (.int 1))))) .nil) .nil) (.cons (.ite (.isi (.var 0) .tuple) (.cons (.set 3 (.lst (.disp (.cons (.sl (.var 0) (.some (.cst (.int 1))) .none) (.cons (.sl (.var 0) .none (.some (.neg (.cst (.int 1))))) (.cons (.op .add (.sl (.var 0) (.some (.cst (.int 1))) .none) (.sl (.var 0) .none (.some (.cst (.int 1))))) (.cons (.op .add (.sl (.var 0) .none (.some (.cst (.int 1)))) (.var 0)) (.cons (.op .add (.var 0) (.tup (.cons (.cst .non) .nil))) (.cons (.lst (.list (.var 0))) (.cons (.cst .non) .nil)))))))))) (.cons (.ret (.ix (.var 3) (.op .sub (.var 2) (.cst (.int 1))))) .nil)) .nil) (.cons (.ret (.var 0)) .nil)))))))
def d21 : DI := ⟨"_law_changed", top 58, ["_law_thing_here", "_law_well_here", "_law_kind_here", "_law_turned"], 2⟩
def b22 : Ss := (.cons (.ite (.cmp .eq (.var 1) (.cst (.int 0))) (.cons (.ret (.call 21 (.cons (.var 0) (.cons (.var 2) .nil)))) .nil) .nil) (.cons (.set 1 (.op .sub (.var 1) (.cst (.int 1)))) (.cons (.loop (.one 3) (.rng (.bi .len (.var 0))) (.cons (.set 4 (.call 20 (.cons (.ix (.var 0) (.var 3)) .nil))) (.cons (.ite (.cmp .lt (.var 1) (.var 4)) (.cons (.ret (.op .add (.op .add (.sl (.var 0) .none (.some (.var 3))) (.tup (.cons (.call 22 (.cons (.ix (.var 0) (.var 3)) (.cons (.var 1) (.cons (.var 2) .nil)))) .nil))) (.sl (.var 0) (.some (.op .add (.var 3) (.cst (.int 1)))) .none))) .nil) .nil) (.cons (.set 1 (.op .sub (.var 1) (.var 4))) .nil)))) (.cons (.ret (.var 0)) .nil))))
def d22 : DI := ⟨"_law_spoilt", top 59, ["_law_thing_here", "_law_at", "_law_well_here", "_law_k", "_law_size"], 3⟩
def b23 : Ss := (.cons (.set 1 (.call 14 (.cons (.var 0) (.cons (.cst (.int 5)) .nil)))) (.cons (.ret (.call 17 (.cons (.var 0) (.cons (.ixl (.disp (.cons (.cst (.int 0)) (.cons (.op .add (.cst (.int 1)) (.call 14 (.cons (.var 0) (.cons (.cst (.int 4)) .nil)))) (.cons (.call 14 (.cons (.var 0) (.cons (.cst (.int 20)) .nil))) (.cons (.cst (.int 96)) (.cons (.call 14 (.cons (.var 0) (.cons (.cst (.int 97)) .nil))) .nil)))))) (.var 1)) .nil)))) .nil))
def d23 : DI := ⟨"_law_text", top 60, ["_law_well_here", "_law_kind_here"], 1⟩
def b24 : Ss := (.cons (.ret (.op .add (.cst (.int 1)) (.call 14 (.cons (.var 0) (.cons (.cst (.int 9)) .nil))))) .nil)
def d24 : DI := ⟨"_law_client", top 62, ["_law_well_here"], 1⟩
def b25 : Ss := (.cons (.ite (.cmp .eq (.call 14 (.cons (.var 0) (.cons (.cst (.int 6)) .nil))) (.cst (.int 0))) (.cons (.ret (.tup (.cons (.cst (.int 0)) (.cons (.cst (.int 0)) (.cons (.cst (.int 0)) .nil))))) .nil) .nil) (.cons (.ret (.tup (.cons (.op .add (.cst (.int 1)) (.call 15 (.cons (.var 0) .nil))) (.cons (.call 24 (.cons (.var 0) .nil)) (.cons (.op .add (.cst (.int 1)) (.call 15 (.cons (.var 0) .nil))) .nil))))) .nil))
def d25 : DI := ⟨"_law_stamp", top 63, ["_law_well_here"], 1⟩
def b26 : Ss := (.cons (.set 1 (.call 14 (.cons (.var 0) (.cons (.cst (.int 6)) .nil)))) (.cons (.ite (.cmp .eq (.var 1) (.cst (.int 0))) (.cons (.ret (.tup (.cons (.cst (.str [112, 117, 116])) (.cons (.call 23 (.cons (.var 0) .nil)) .nil)))) .nil) .nil) (.cons (.ite (.cmp .eq (.var 1) (.cst (.int 1))) (.cons (.ret (.tup (.cons (.cst (.str [115, 112, 108, 105, 99, 101])) (.cons (.call 15 (.cons (.var 0) .nil)) (.cons (.call 15 (.cons (.var 0) .nil)) (.cons (.call 23 (.cons (.var 0) .nil)) .nil)))))) .nil) .nil) (.cons (.ite (.cmp .eq (.var 1) (.cst (.int 2))) (.cons (.ret (.tup (.cons (.cst (.str [114, 101, 109, 111, 118, 101])) .nil))) .nil) .nil) (.cons (.ite (.cmp .eq (.var 1) (.cst (.int 3))) (.cons (.ret (.tup (.cons (.cst (.str [116, 97, 107, 101])) (.cons (.call 18 (.cons (.var 0) .nil)) .nil)))) .nil) .nil) (.cons (.ret (.tup (.cons (.ixl (.disp (.cons (.cst (.str [97, 100, 111, 112, 116])) (.cons (.cst (.str [100, 114, 111, 112])) .nil))) (.op .sub (.var 1) (.cst (.int 4)))) (.cons (.call 24 (.cons (.var 0) .nil)) (.cons (.op .add (.cst (.int 1)) (.call 15 (.cons (.var 0) .nil))) .nil))))) .nil))))))
def d26 : DI := ⟨"_law_edit", top 67, ["_law_well_here", "_law_kind_here"], 1⟩
def b27 : Ss := (.cons (.ret (.and (.isi (.var 0) .int) (.and (.not (.isi (.var 0) .bool)) (.cmp .ge (.var 0) (.cst (.int 0)))))) .nil)
def d27 : DI := ⟨"_law_count", top 68, ["_law_thing_here"], 1⟩
def b28 : Ss := (.cons (.ret (.and (.isi (.var 0) .tuple) (.cmp .eq (.bi .len (.var 0)) (.var 1)))) .nil)
def d28 : DI := ⟨"_law_long", top 69, ["_law_thing_here", "_law_many"], 2⟩
def b29 : Ss := (.cons (.ite (.or (.not (.isi (.var 0) .str)) (.or (.cmp .lt (.bi .len (.var 0)) (.cst (.int 1))) (.cmp .gt (.bi .len (.var 0)) (.cst (.int 8))))) (.cons (.ret (.cst (.bl false))) .nil) .nil) (.cons (.ret (.bil .all (.comp [1] (.one 1) (.seq (.var 0)) .nil (.cmp .inn (.var 1) (.cst (.str [97, 98, 99, 100, 101, 102, 103, 104, 105, 106, 107, 108, 109, 110, 111, 112, 113, 114, 115, 116, 117, 118, 119, 120, 121, 122])))))) .nil))
def d29 : DI := ⟨"_law_name_fits", top 70, ["_law_thing_here", "_law_sign"], 1⟩
def b30 : Ss := (.cons (.ret (.and (.isi (.var 0) .str) (.and (.cmp .le (.bi .len (.var 0)) (.cst (.int 96))) (.bil .all (.comp [1] (.one 1) (.seq (.var 0)) .nil (.and (.cmp .le (.cst (.str [32])) (.var 1)) (.cmp .le (.var 1) (.cst (.str [126]))))))))) .nil)
def d30 : DI := ⟨"_law_text_fits", top 71, ["_law_thing_here", "_law_sign"], 1⟩
def b31 : Ss := (.cons (.ret (.and (.call 27 (.cons (.var 0) .nil)) (.and (.cmp .le (.cst (.int 1)) (.var 0)) (.cmp .le (.var 0) (.cst (.int 9)))))) .nil)
def d31 : DI := ⟨"_law_client_fits", top 72, ["_law_thing_here"], 1⟩
def b32 : Ss := (.cons (.ret (.and (.call 28 (.cons (.var 0) (.cons (.cst (.int 2)) .nil))) (.and (.call 31 (.cons (.ix (.var 0) (.cst (.int 0))) .nil)) (.and (.call 27 (.cons (.ix (.var 0) (.cst (.int 1))) .nil)) (.cmp .ge (.ix (.var 0) (.cst (.int 1))) (.cst (.int 1))))))) .nil)
def d32 : DI := ⟨"_law_pair_fits", top 73, ["_law_thing_here"], 1⟩
def b33 : Ss := (.cons (.ite (.or (.not (.call 28 (.cons (.var 0) (.cons (.cst (.int 3)) .nil)))) (.not (.bil .all (.comp [1] (.one 1) (.seq (.var 0)) .nil (.call 27 (.cons (.var 1) .nil)))))) (.cons (.ret (.cst (.bl false))) .nil) .nil) (.cons (.ite (.and (.cmp .eq (.ix (.var 0) (.cst (.int 0))) (.cst (.int 0))) (.and (.cmp .eq (.ix (.var 0) (.cst (.int 1))) (.cst (.int 0))) (.cmp .eq (.ix (.var 0) (.cst (.int 2))) (.cst (.int 0))))) (.cons (.ret (.cst (.bl true))) .nil) .nil) (.cons (.ret (.and (.cmp .ge (.ix (.var 0) (.cst (.int 0))) (.cst (.int 1))) (.call 32 (.cons (.sl (.var 0) (.some (.cst (.int 1))) .none) .nil)))) .nil)))
def d33 : DI := ⟨"_law_stamp_fits", top 74, ["_law_thing_here", "_law_part"], 1⟩
def b34 : Ss := (.cons (.ite (.or (.not (.isi (.var 0) .tuple)) (.or (.cmp .eq (.bi .len (.var 0)) (.cst (.int 0))) (.not (.isi (.ix (.var 0) (.cst (.int 0))) .str)))) (.cons (.ret (.cst (.bl false))) .nil) .nil) (.cons (.set 1 (.ix (.var 0) (.cst (.int 0)))) (.cons (.set 2 (.sl (.var 0) (.some (.cst (.int 1))) .none)) (.cons (.ite (.cmp .eq (.var 1) (.cst (.str [112, 117, 116]))) (.cons (.ret (.and (.cmp .eq (.bi .len (.var 2)) (.cst (.int 1))) (.call 30 (.cons (.ix (.var 2) (.cst (.int 0))) .nil)))) .nil) .nil) (.cons (.ite (.cmp .eq (.var 1) (.cst (.str [115, 112, 108, 105, 99, 101]))) (.cons (.ret (.and (.cmp .eq (.bi .len (.var 2)) (.cst (.int 3))) (.and (.call 27 (.cons (.ix (.var 2) (.cst (.int 0))) .nil)) (.and (.call 27 (.cons (.ix (.var 2) (.cst (.int 1))) .nil)) (.call 30 (.cons (.ix (.var 2) (.cst (.int 2))) .nil)))))) .nil) .nil) (.cons (.ite (.cmp .eq (.var 1) (.cst (.str [116, 97, 107, 101]))) (.cons (.ret (.and (.cmp .eq (.bi .len (.var 2)) (.cst (.int 1))) (.call 29 (.cons (.ix (.var 2) (.cst (.int 0))) .nil)))) .nil) .nil) (.cons (.ite (.or (.cmp .eq (.var 1) (.cst (.str [97, 100, 111, 112, 116]))) (.cmp .eq (.var 1) (.cst (.str [100, 114, 111, 112])))) (.cons (.ret (.call 32 (.cons (.var 2) .nil))) .nil) .nil) (.cons (.ret (.and (.cmp .eq (.var 1) (.cst (.str [114, 101, 109, 111, 118, 101]))) (.cmp .eq (.bi .len (.var 2)) (.cst (.int 0))))) .nil))))))))
def d34 : DI := ⟨"_law_edit_fits", top 76, ["_law_thing_here", "_law_word_here", "_law_rest"], 1⟩
def b35 : Ss := (.cons (.set 2 (.call 14 (.cons (.var 0) (.cons (.cst (.int 9)) .nil)))) (.cons (.ite (.cmp .eq (.var 2) (.cst (.int 0))) (.cons (.ret (.call 19 (.cons (.var 0) (.cons (.cst (.int 3)) .nil)))) .nil) .nil) (.cons (.set 3 (.var 1)) (.cons (.loop (.one 4) (.rng (.ixl (.disp (.cons (.cst (.int 0)) (.cons (.cst (.int 1)) (.cons (.cst (.int 1)) (.cons (.cst (.int 2)) (.cons (.cst (.int 0)) (.cons (.cst (.int 0)) (.cons (.cst (.int 1)) (.cons (.cst (.int 0)) (.cons (.cst (.int 0)) .nil)))))))))) (.var 2))) (.cons (.set 3 (.call 22 (.cons (.var 3) (.cons (.call 14 (.cons (.var 0) (.cons (.call 20 (.cons (.var 3) .nil)) .nil))) (.cons (.var 0) .nil))))) .nil)) (.cons (.ret (.var 3)) .nil)))))
def d35 : DI := ⟨"_law_thing", top 95, ["_law_well_here", "_law_table_here", "_law_kind_here", "_law_thing_here", "_law_k"], 2⟩
def b36 : Ss := (.cons (.ret (.call 1 (.cons (.var 0) (.cons (.cst (.int 1)) .nil)))) .nil)
def d36 : DI := ⟨"is_number", top 14, ["thing"], 1⟩
def b37 : Ss := (.cons (.ret (.or (.cmp .isN (.var 0) (.cst .non)) (.call 6 (.cons (.var 0) .nil)))) .nil)
def d37 : DI := ⟨"is_base", top 20, ["thing"], 1⟩
def b38 : Ss := (.cons (.ret (.or (.cmp .isN (.var 0) (.cst .non)) (.call 5 (.cons (.var 0) .nil)))) .nil)
def d38 : DI := ⟨"is_text_or_none", top 21, ["thing"], 1⟩
def b39 : Ss := (.cons (.ret (.and (.isi (.var 0) .str) (.cmp .inn (.var 0) (.cst (.tup [(.str [114, 101, 97, 100]), (.str [119, 114, 105, 116, 101])]))))) .nil)
def d39 : DI := ⟨"is_kind", top 22, ["thing"], 1⟩
def b40 : Ss := (.cons (.ret (.and (.isi (.var 0) .str) (.cmp .inn (.var 0) (.cst (.tup [(.str [97, 112, 112, 108, 105, 101, 100]), (.str [97, 115, 105, 100, 101]), (.str [117, 110, 102, 105, 116]), (.str [100, 114, 111, 112, 112, 101, 100])]))))) .nil)
def d40 : DI := ⟨"is_done_word", top 23, ["thing"], 1⟩
def b41 : Ss := (.cons (.ret (.and (.isi (.var 0) .tuple) (.and (.cmp .eq (.bi .len (.var 0)) (.cst (.int 2))) (.and (.call 100 (.cons (.ix (.var 0) (.cst (.int 0))) .nil)) (.call 100 (.cons (.ix (.var 0) (.cst (.int 1))) .nil)))))) .nil)
def d41 : DI := ⟨"is_talk", top 24, ["thing"], 1⟩
def b42 : Ss := (.cons (.set 2 (.tget "JUDGES" (.var 1))) (.cons (.ret (.callv 2 (.cons (.var 0) .nil))) .nil))
def d42 : DI := ⟨"is_part", top 30, ["thing", "part", "judge"], 2⟩
def b43 : Ss := (.cons (.ite (.or (.not (.isi (.var 0) .tuple)) (.cmp .ne (.bi .len (.var 0)) (.bi .len (.var 1)))) (.cons (.ret (.cst (.bl false))) .nil) .nil) (.cons (.ret (.bil .all (.comp [2, 3] (.many [2, 3]) (.zip (.var 0) (.var 1)) .nil (.call 42 (.cons (.var 2) (.cons (.var 3) .nil)))))) .nil))
def d43 : DI := ⟨"has_form", top 31, ["thing", "form", "item", "part"], 2⟩
def b44 : Ss := (.cons (.ret (.bil .all (.comp [1, 2] (.many [1, 2]) (.zip (.var 0) (.sl (.var 0) (.some (.cst (.int 1))) .none)) .nil (.cmp .lt (.var 1) (.var 2))))) .nil)
def d44 : DI := ⟨"is_ascending", top 33, ["items", "first", "second"], 1⟩
def b45 : Ss := (.cons (.ite (.or (.not (.isi (.var 0) .tuple)) (.not (.bil .all (.comp [3] (.one 3) (.seq (.var 0)) .nil (.call 43 (.cons (.var 3) (.cons (.var 1) .nil))))))) (.cons (.ret (.cst (.bl false))) .nil) .nil) (.cons (.ret (.call 44 (.cons (.lst (.comp [3] (.one 3) (.seq (.var 0)) .nil (.sl (.var 3) .none (.some (.var 2))))) .nil))) .nil))
def d45 : DI := ⟨"is_rows", top 34, ["thing", "form", "many", "row"], 3⟩
def b46 : Ss := (.cons (.loop (.one 2) (.seq (.var 0)) (.cons (.ite (.cmp .eq (.sl (.var 2) .none (.some (.bi .len (.var 1)))) (.var 1)) (.cons (.ret (.var 2)) .nil) .nil) .nil)) (.cons (.ret (.cst .non)) .nil))
def d46 : DI := ⟨"row_of", top 35, ["rows", "key", "row"], 2⟩
def b47 : Ss := (.cons (.ret (.and (.isi (.var 0) .int) (.not (.isi (.var 0) .bool)))) .nil)
def d47 : DI := ⟨"is_whole", top 11, ["thing"], 1⟩
def b48 : Ss := (.cons (.ret (.and (.isi (.var 0) .int) (.not (.isi (.var 0) .bool)))) .nil)
def d48 : DI := ⟨"is_whole", top 11, ["thing"], 1⟩
def b49 : Ss := (.cons (.ret (.call 45 (.cons (.var 0) (.cons (.cst (.tup [(.str [110, 97, 109, 101]), (.str [115, 116, 97, 109, 112]), (.str [116, 101, 120, 116])])) (.cons (.cst (.int 1)) .nil))))) .nil)
def d49 : DI := ⟨"is_files", top 42, ["thing"], 1⟩
def b50 : Ss := (.cons (.ite (.or (.not (.isi (.var 0) .tuple)) (.cmp .ne (.bi .len (.var 0)) (.cst (.int 5)))) (.cons (.ret (.cst (.bl false))) .nil) .nil) (.cons (.unp [1, 2, 3, 4, 5] (.var 0)) (.cons (.ite (.or (.not (.call 100 (.cons (.var 1) .nil))) (.or (.not (.call 49 (.cons (.var 2) .nil))) (.not (.call 45 (.cons (.var 3) (.cons (.cst (.tup [(.str [110, 97, 109, 101]), (.str [99, 108, 105, 101, 110, 116]), (.str [107, 105, 110, 100]), (.str [116, 97, 108, 107]), (.str [99, 111, 117, 110, 116])])) (.cons (.cst (.int 2)) .nil))))))) (.cons (.ret (.cst (.bl false))) .nil) .nil) (.cons (.ret (.and (.call 45 (.cons (.var 4) (.cons (.cst (.tup [(.str [99, 108, 105, 101, 110, 116]), (.str [110, 117, 109, 98, 101, 114]), (.str [119, 111, 114, 100]), (.str [115, 116, 97, 109, 112])])) (.cons (.cst (.int 1)) .nil)))) (.call 45 (.cons (.var 5) (.cons (.cst (.tup [(.str [99, 108, 105, 101, 110, 116]), (.str [110, 117, 109, 98, 101, 114]), (.str [110, 97, 109, 101]), (.str [98, 97, 115, 101]), (.str [101, 100, 105, 116])])) (.cons (.cst (.int 2)) .nil)))))) .nil))))
def d50 : DI := ⟨"is_table", top 43, ["thing", "clock", "files", "leases", "done", "asides"], 1⟩
def b51 : Ss := (.cons (.ret (.and (.isi (.var 0) .int) (.not (.isi (.var 0) .bool)))) .nil)
def d51 : DI := ⟨"is_whole", top 11, ["thing"], 1⟩
def b52 : Ss := (.cons (.ret (.and (.isi (.var 0) .int) (.not (.isi (.var 0) .bool)))) .nil)
def d52 : DI := ⟨"is_whole", top 11, ["thing"], 1⟩
def b53 : Ss := (.cons (.ret (.tup (.cons (.cst (.int 0)) (.cons (.tup .nil) (.cons (.tup .nil) (.cons (.tup .nil) (.cons (.tup .nil) .nil))))))) .nil)
def d53 : DI := ⟨"bare_table", top 41, [], 0⟩
def b54 : Ss := (.cons (.set 2 (.call 46 (.cons (.ix (.var 0) (.cst (.int 1))) (.cons (.tup (.cons (.var 1) .nil)) .nil)))) (.cons (.ret (.ite (.cmp .isN (.var 2) (.cst .non)) (.tup (.cons (.cst (.tup [(.int 0), (.int 0), (.int 0)])) (.cons (.cst .non) .nil))) (.sl (.var 2) (.some (.cst (.int 1))) .none))) .nil))
def d54 : DI := ⟨"file_at", top 44, ["table", "name", "file"], 2⟩
def b55 : Ss := (.cons (.ite (.not (.call 50 (.cons (.var 0) .nil))) (.cons (.rais 0) .nil) .nil) (.cons (.ite (.not (.call 4 (.cons (.var 1) .nil))) (.cons (.rais 1) .nil) .nil) (.cons (.ret (.call 54 (.cons (.var 0) (.cons (.var 1) .nil)))) .nil)))
def d55 : DI := ⟨"file_of", top 45, ["table", "name"], 2⟩
def b56 : Ss := (.cons (.ret (.and (.isi (.var 0) .int) (.not (.isi (.var 0) .bool)))) .nil)
def d56 : DI := ⟨"is_whole", top 11, ["thing"], 1⟩
def b57 : Ss := (.cons (.ret (.and (.isi (.var 0) .int) (.not (.isi (.var 0) .bool)))) .nil)
def d57 : DI := ⟨"is_whole", top 11, ["thing"], 1⟩
def b58 : Ss := (.cons (.ret (.and (.isi (.var 0) .int) (.not (.isi (.var 0) .bool)))) .nil)
def d58 : DI := ⟨"is_whole", top 11, ["thing"], 1⟩
def b59 : Ss := (.cons (.ret (.and (.isi (.var 0) .int) (.not (.isi (.var 0) .bool)))) .nil)
def d59 : DI := ⟨"is_whole", top 11, ["thing"], 1⟩
def b60 : Ss := (.cons (.ret (.and (.isi (.var 0) .int) (.not (.isi (.var 0) .bool)))) .nil)
def d60 : DI := ⟨"is_whole", top 11, ["thing"], 1⟩
def b61 : Ss := (.cons (.ret (.and (.isi (.var 0) .int) (.not (.isi (.var 0) .bool)))) .nil)
def d61 : DI := ⟨"is_whole", top 11, ["thing"], 1⟩
def b62 : Ss := (.cons (.ret (.and (.isi (.var 0) .int) (.not (.isi (.var 0) .bool)))) .nil)
def d62 : DI := ⟨"is_whole", top 11, ["thing"], 1⟩
def b63 : Ss := (.cons (.ret (.and (.isi (.var 0) .int) (.not (.isi (.var 0) .bool)))) .nil)
def d63 : DI := ⟨"is_whole", top 11, ["thing"], 1⟩
def b64 : Ss := (.cons (.ret (.and (.isi (.var 0) .int) (.not (.isi (.var 0) .bool)))) .nil)
def d64 : DI := ⟨"is_whole", top 11, ["thing"], 1⟩
def b65 : Ss := (.cons (.ret (.and (.isi (.var 0) .int) (.not (.isi (.var 0) .bool)))) .nil)
def d65 : DI := ⟨"is_whole", top 11, ["thing"], 1⟩
def b66 : Ss := (.cons (.ret (.and (.isi (.var 0) .int) (.not (.isi (.var 0) .bool)))) .nil)
def d66 : DI := ⟨"is_whole", top 11, ["thing"], 1⟩
def b67 : Ss := (.cons (.ret (.and (.isi (.var 0) .int) (.not (.isi (.var 0) .bool)))) .nil)
def d67 : DI := ⟨"is_whole", top 11, ["thing"], 1⟩
def b68 : Ss := (.cons (.ret (.and (.isi (.var 0) .int) (.not (.isi (.var 0) .bool)))) .nil)
def d68 : DI := ⟨"is_whole", top 11, ["thing"], 1⟩
def b69 : Ss := (.cons (.ret (.and (.isi (.var 0) .int) (.not (.isi (.var 0) .bool)))) .nil)
def d69 : DI := ⟨"is_whole", top 11, ["thing"], 1⟩
def b70 : Ss := (.cons (.ret (.and (.isi (.var 0) .int) (.not (.isi (.var 0) .bool)))) .nil)
def d70 : DI := ⟨"is_whole", top 11, ["thing"], 1⟩
def b71 : Ss := (.cons (.ret (.and (.isi (.var 0) .int) (.not (.isi (.var 0) .bool)))) .nil)
def d71 : DI := ⟨"is_whole", top 11, ["thing"], 1⟩
def b72 : Ss := (.cons (.set 1 (.lst (.disp .nil))) (.cons (.loop (.one 2) (.seq (.var 0)) (.cons (.ite (.cmp .notIn (.var 2) (.var 1)) (.cons (.expr (.mtd .append (.var 1) (.cons (.var 2) .nil))) .nil) .nil) .nil)) (.cons (.ret (.lst (.srt (.var 1)))) .nil)))
def d72 : DI := ⟨"_law_unlike", top 55, ["_law_things", "_law_found", "_law_thing_here"], 1⟩
def b73 : Ss := (.cons (.ite (.cmp .eq (.call 14 (.cons (.var 0) (.cons (.cst (.int 4)) .nil))) (.cst (.int 0))) (.cons (.ret (.cst .non)) .nil) .nil) (.cons (.ret (.call 23 (.cons (.var 0) .nil))) .nil))
def d73 : DI := ⟨"_law_content", top 61, ["_law_well_here"], 1⟩
def b74 : Ss := (.cons (.ite (.cmp .eq (.call 14 (.cons (.var 0) (.cons (.cst (.int 3)) .nil))) (.cst (.int 0))) (.cons (.ret (.cst .non)) .nil) .nil) (.cons (.ret (.call 25 (.cons (.var 0) .nil))) .nil))
def d74 : DI := ⟨"_law_base", top 64, ["_law_well_here"], 1⟩
def b75 : Ss := (.cons (.ret (.ixl (.disp (.cons (.cst (.str [114, 101, 97, 100])) (.cons (.cst (.str [119, 114, 105, 116, 101])) .nil))) (.call 14 (.cons (.var 0) (.cons (.cst (.int 2)) .nil))))) .nil)
def d75 : DI := ⟨"_law_kind", top 65, ["_law_well_here"], 1⟩
def b76 : Ss := (.cons (.ret (.tup (.cons (.call 14 (.cons (.var 0) (.cons (.cst (.int 3)) .nil))) (.cons (.call 15 (.cons (.var 0) .nil)) .nil)))) .nil)
def d76 : DI := ⟨"_law_talk", top 66, ["_law_well_here"], 1⟩
def b77 : Ss := (.cons (.ret (.or (.cmp .isN (.var 0) (.cst .non)) (.call 33 (.cons (.var 0) .nil)))) .nil)
def d77 : DI := ⟨"_law_base_fits", top 75, ["_law_thing_here"], 1⟩
def b78 : Ss := (.cons (.ite (.or (.not (.isi (.var 0) .tuple)) (.not (.bil .all (.comp [4] (.one 4) (.seq (.var 0)) .nil (.callv 1 (.cons (.var 4) .nil)))))) (.cons (.ret (.cst (.bl false))) .nil) .nil) (.cons (.ret (.bil .all (.comp [3] (.one 3) (.rng (.op .sub (.bi .len (.var 0)) (.cst (.int 1)))) .nil (.cmp .lt (.sl (.ix (.var 0) (.var 3)) .none (.some (.var 2))) (.sl (.ix (.var 0) (.op .add (.var 3) (.cst (.int 1)))) .none (.some (.var 2))))))) .nil))
def d78 : DI := ⟨"_law_rows_fit", top 77, ["_law_thing_here", "_law_fits", "_law_size", "_law_k", "_law_row"], 3⟩
def b79 : Ss := (.cons (.ret (.or (.cmp .isN (.var 0) (.cst .non)) (.call 30 (.cons (.var 0) .nil)))) .nil)
def d79 : DI := ⟨"_law_content_fits", top 78, ["_law_thing_here"], 1⟩
def b80 : Ss := (.cons (.ret (.and (.isi (.var 0) .str) (.inl false (.var 0) (.disp (.cons (.cst (.str [114, 101, 97, 100])) (.cons (.cst (.str [119, 114, 105, 116, 101])) .nil)))))) .nil)
def d80 : DI := ⟨"_law_kind_fits", top 79, ["_law_thing_here"], 1⟩
def b81 : Ss := (.cons (.ret (.and (.isi (.var 0) .str) (.inl false (.var 0) (.disp (.cons (.cst (.str [97, 112, 112, 108, 105, 101, 100])) (.cons (.cst (.str [97, 115, 105, 100, 101])) (.cons (.cst (.str [117, 110, 102, 105, 116])) (.cons (.cst (.str [100, 114, 111, 112, 112, 101, 100])) .nil)))))))) .nil)
def d81 : DI := ⟨"_law_word_fits", top 80, ["_law_thing_here"], 1⟩
def b82 : Ss := (.cons (.ret (.and (.call 28 (.cons (.var 0) (.cons (.cst (.int 2)) .nil))) (.and (.call 27 (.cons (.ix (.var 0) (.cst (.int 0))) .nil)) (.call 27 (.cons (.ix (.var 0) (.cst (.int 1))) .nil))))) .nil)
def d82 : DI := ⟨"_law_talk_fits", top 81, ["_law_thing_here"], 1⟩
def b83 : Ss := (.cons (.ite (.or (.not (.call 28 (.cons (.var 0) (.cons (.cst (.int 3)) .nil)))) (.not (.call 29 (.cons (.ix (.var 0) (.cst (.int 0))) .nil)))) (.cons (.ret (.cst (.bl false))) .nil) .nil) (.cons (.ret (.and (.call 33 (.cons (.ix (.var 0) (.cst (.int 1))) .nil)) (.call 79 (.cons (.ix (.var 0) (.cst (.int 2))) .nil)))) .nil))
def d83 : DI := ⟨"_law_file_fits", top 82, ["_law_row"], 1⟩
def b84 : Ss := (.cons (.ite (.or (.not (.call 28 (.cons (.var 0) (.cons (.cst (.int 5)) .nil)))) (.or (.not (.call 29 (.cons (.ix (.var 0) (.cst (.int 0))) .nil))) (.not (.call 31 (.cons (.ix (.var 0) (.cst (.int 1))) .nil))))) (.cons (.ret (.cst (.bl false))) .nil) .nil) (.cons (.ret (.and (.call 80 (.cons (.ix (.var 0) (.cst (.int 2))) .nil)) (.and (.call 82 (.cons (.ix (.var 0) (.cst (.int 3))) .nil)) (.call 27 (.cons (.ix (.var 0) (.cst (.int 4))) .nil))))) .nil))
def d84 : DI := ⟨"_law_lease_fits", top 83, ["_law_row"], 1⟩
def b85 : Ss := (.cons (.ite (.or (.not (.call 28 (.cons (.var 0) (.cons (.cst (.int 4)) .nil)))) (.not (.call 32 (.cons (.sl (.var 0) .none (.some (.cst (.int 2)))) .nil)))) (.cons (.ret (.cst (.bl false))) .nil) .nil) (.cons (.ret (.and (.call 81 (.cons (.ix (.var 0) (.cst (.int 2))) .nil)) (.call 33 (.cons (.ix (.var 0) (.cst (.int 3))) .nil)))) .nil))
def d85 : DI := ⟨"_law_done_fits", top 84, ["_law_row"], 1⟩
def b86 : Ss := (.cons (.ite (.or (.not (.call 28 (.cons (.var 0) (.cons (.cst (.int 5)) .nil)))) (.or (.not (.call 32 (.cons (.sl (.var 0) .none (.some (.cst (.int 2)))) .nil))) (.not (.call 29 (.cons (.ix (.var 0) (.cst (.int 2))) .nil))))) (.cons (.ret (.cst (.bl false))) .nil) .nil) (.cons (.ret (.and (.call 77 (.cons (.ix (.var 0) (.cst (.int 3))) .nil)) (.call 34 (.cons (.ix (.var 0) (.cst (.int 4))) .nil)))) .nil))
def d86 : DI := ⟨"_law_aside_fits", top 85, ["_law_row"], 1⟩
def b87 : Ss := (.cons (.ite (.or (.not (.call 28 (.cons (.var 0) (.cons (.cst (.int 5)) .nil)))) (.not (.call 27 (.cons (.ix (.var 0) (.cst (.int 0))) .nil)))) (.cons (.ret (.cst (.bl false))) .nil) .nil) (.cons (.ite (.or (.not (.call 78 (.cons (.ix (.var 0) (.cst (.int 1))) (.cons (.cst (.fn "_law_file_fits")) (.cons (.cst (.int 1)) .nil))))) (.not (.call 78 (.cons (.ix (.var 0) (.cst (.int 2))) (.cons (.cst (.fn "_law_lease_fits")) (.cons (.cst (.int 2)) .nil)))))) (.cons (.ret (.cst (.bl false))) .nil) .nil) (.cons (.ret (.and (.call 78 (.cons (.ix (.var 0) (.cst (.int 3))) (.cons (.cst (.fn "_law_done_fits")) (.cons (.cst (.int 1)) .nil)))) (.call 78 (.cons (.ix (.var 0) (.cst (.int 4))) (.cons (.cst (.fn "_law_aside_fits")) (.cons (.cst (.int 2)) .nil)))))) .nil)))
def d87 : DI := ⟨"_law_table_fits", top 86, ["_law_thing_here"], 1⟩
def b88 : Ss := (.cons (.set 1 (.ixl (.disp (.cons (.op .add (.cst (.int 1)) (.call 14 (.cons (.var 0) (.cons (.cst (.int 4)) .nil)))) (.cons (.op .add (.cst (.int 25)) (.call 14 (.cons (.var 0) (.cons (.cst (.int 10)) .nil)))) .nil))) (.bi .int (.cmp .eq (.call 14 (.cons (.var 0) (.cons (.cst (.int 24)) .nil))) (.cst (.int 0)))))) (.cons (.ret (.call 72 (.cons (.lst (.comp [2] (.one 2) (.rng (.var 1)) .nil (.call 18 (.cons (.var 0) .nil)))) .nil))) .nil))
def d88 : DI := ⟨"_law_pool", top 87, ["_law_well_here", "_law_many", "_law_k"], 1⟩
def b89 : Ss := (.cons (.ret (.ix (.var 1) (.call 14 (.cons (.var 0) (.cons (.bi .len (.var 1)) .nil))))) .nil)
def d89 : DI := ⟨"_law_of", top 88, ["_law_well_here", "_law_names"], 2⟩
def b90 : Ss := (.cons (.ret (.ixl (.disp (.cons (.cst (.str [97, 112, 112, 108, 105, 101, 100])) (.cons (.cst (.str [97, 115, 105, 100, 101])) (.cons (.cst (.str [117, 110, 102, 105, 116])) (.cons (.cst (.str [100, 114, 111, 112, 112, 101, 100])) .nil))))) (.call 14 (.cons (.var 0) (.cons (.cst (.int 4)) .nil))))) .nil)
def d90 : DI := ⟨"_law_word", top 89, ["_law_well_here"], 1⟩
def b91 : Ss := (.cons (.set 2 (.dic .nil)) (.cons (.loop (.one 3) (.seq (.var 0)) (.cons (.sixk (.var 2) (.var 3) .none (.some (.var 1)) (.var 3)) .nil)) (.cons (.ret (.bil .tuple (.comp [4] (.one 4) (.fresh (.srt (.var 2))) .nil (.ix (.var 2) (.var 4))))) .nil)))
def d91 : DI := ⟨"_law_keyed", top 90, ["_law_rows", "_law_size", "_law_found", "_law_row", "_law_key"], 2⟩
def b92 : Ss := (.cons (.set 3 (.bin .max (.cst (.int 0)) (.op .sub (.op .add (.var 2) (.call 14 (.cons (.var 0) (.cons (.cst (.int 12)) .nil)))) (.cst (.int 2))))) (.cons (.ret (.tup (.cons (.call 89 (.cons (.var 0) (.cons (.var 1) .nil))) (.cons (.call 24 (.cons (.var 0) .nil)) (.cons (.call 75 (.cons (.var 0) .nil)) (.cons (.call 76 (.cons (.var 0) .nil)) (.cons (.var 3) .nil))))))) .nil))
def d92 : DI := ⟨"_law_lease_row", top 91, ["_law_well_here", "_law_names", "_law_clock", "_law_until"], 3⟩
def b93 : Ss := (.cons (.ret (.tup (.cons (.call 24 (.cons (.var 0) .nil)) (.cons (.op .add (.cst (.int 1)) (.call 14 (.cons (.var 0) (.cons (.cst (.int 4)) .nil)))) (.cons (.call 89 (.cons (.var 0) (.cons (.var 1) .nil))) (.cons (.call 74 (.cons (.var 0) .nil)) (.cons (.call 26 (.cons (.var 0) .nil)) .nil))))))) .nil)
def d93 : DI := ⟨"_law_aside_row", top 92, ["_law_well_here", "_law_names"], 2⟩
def b94 : Ss := (.cons (.set 2 (.call 15 (.cons (.var 0) .nil))) (.cons (.set 3 (.lst (.comp [8] (.one 8) (.seq (.var 1)) (.cons (.cmp .gt (.call 14 (.cons (.var 0) (.cons (.cst (.int 4)) .nil))) (.cst (.int 0))) .nil) (.tup (.cons (.var 8) (.cons (.call 25 (.cons (.var 0) .nil)) (.cons (.call 73 (.cons (.var 0) .nil)) .nil))))))) (.cons (.set 4 (.lst (.comp [6] (.one 6) (.rng (.call 14 (.cons (.var 0) (.cons (.cst (.int 5)) .nil)))) .nil (.call 92 (.cons (.var 0) (.cons (.var 1) (.cons (.var 2) .nil))))))) (.cons (.set 5 (.lst (.disp .nil))) (.cons (.loop (.one 6) (.rng (.call 14 (.cons (.var 0) (.cons (.cst (.int 4)) .nil)))) (.cons (.expr (.mtd .append (.var 5) (.cons (.tup (.cons (.call 24 (.cons (.var 0) .nil)) (.cons (.op .add (.cst (.int 1)) (.call 15 (.cons (.var 0) .nil))) (.cons (.call 90 (.cons (.var 0) .nil)) (.cons (.call 25 (.cons (.var 0) .nil)) .nil))))) .nil))) .nil)) (.cons (.set 7 (.lst (.comp [6] (.one 6) (.rng (.call 14 (.cons (.var 0) (.cons (.cst (.int 4)) .nil)))) .nil (.call 93 (.cons (.var 0) (.cons (.var 1) .nil)))))) (.cons (.ret (.tup (.cons (.var 2) (.cons (.bi .tuple (.var 3)) (.cons (.call 91 (.cons (.var 4) (.cons (.cst (.int 2)) .nil))) (.cons (.call 91 (.cons (.var 5) (.cons (.cst (.int 1)) .nil))) (.cons (.call 91 (.cons (.var 7) (.cons (.cst (.int 2)) .nil))) .nil))))))) .nil)))))))
def d94 : DI := ⟨"_law_table", top 93, ["_law_well_here", "_law_names", "_law_clock", "_law_files", "_law_leases", "_law_done", "_law_k", "_law_asides", "_law_name_here"], 2⟩
def b95 : Ss := (.cons (.ret (.and (.isi (.var 0) .int) (.not (.isi (.var 0) .bool)))) .nil)
def d95 : DI := ⟨"is_whole", top 11, ["thing"], 1⟩
def b96 : Ss := (.cons (.ret (.and (.isi (.var 0) .int) (.not (.isi (.var 0) .bool)))) .nil)
def d96 : DI := ⟨"is_whole", top 11, ["thing"], 1⟩
def b97 : Ss := (.cons (.ret (.and (.isi (.var 0) .int) (.not (.isi (.var 0) .bool)))) .nil)
def d97 : DI := ⟨"is_whole", top 11, ["thing"], 1⟩
def b98 : Ss := (.cons (.ret (.and (.isi (.var 0) .int) (.not (.isi (.var 0) .bool)))) .nil)
def d98 : DI := ⟨"is_whole", top 11, ["thing"], 1⟩
def b99 : Ss := (.cons (.ite (.isi (.var 1) .tuple) (.cons (.ite (.or (.not (.isi (.var 0) .tuple)) (.cmp .ne (.bi .len (.var 0)) (.bi .len (.var 1)))) (.cons (.ret (.cst (.bl false))) .nil) .nil) (.cons (.ret (.bil .all (.comp [2] (.one 2) (.rng (.bi .len (.var 1))) .nil (.call 99 (.cons (.ix (.var 0) (.var 2)) (.cons (.ix (.var 1) (.var 2)) .nil)))))) .nil)) .nil) (.cons (.ite (.cmp .isN (.var 1) (.cst .non)) (.cons (.ret (.cmp .isN (.var 0) (.cst .non))) .nil) .nil) (.cons (.ite (.isi (.var 1) .str) (.cons (.ret (.and (.isi (.var 0) .str) (.cmp .eq (.var 0) (.var 1)))) .nil) .nil) (.cons (.ret (.and (.isi (.var 0) .int) (.and (.not (.isi (.var 0) .bool)) (.cmp .eq (.var 0) (.var 1))))) .nil))))
def d99 : DI := ⟨"_law_alike", top 94, ["_law_told_here", "_law_due_here", "_law_k"], 2⟩
def b100 : Ss := (.cons (.ret (.call 1 (.cons (.var 0) (.cons (.cst (.int 0)) .nil)))) .nil)
def d100 : DI := ⟨"is_count", top 13, ["thing"], 1⟩
def b101 : Ss := (.cons (.set 2 (.tup (.cons (.cst (.str [111, 116, 104, 101, 114])) (.cons (.cst .non) .nil)))) (.cons (.tri (.cons (.set 2 (.tup (.cons (.cst (.str [116, 111, 108, 100])) (.cons (.call 55 (.cons (.var 0) (.cons (.var 1) .nil))) .nil)))) .nil) (.cons 0 (.cons (.set 2 (.tup (.cons (.cst (.str [116, 97, 98, 108, 101])) (.cons (.cst .non) .nil)))) .nil) (.cons 1 (.cons (.set 2 (.tup (.cons (.cst (.str [110, 97, 109, 101])) (.cons (.cst .non) .nil)))) .nil) (.cons 2 (.cons (.set 2 (.tup (.cons (.cst (.str [111, 116, 104, 101, 114])) (.cons (.cst .non) .nil)))) .nil) .nil)))) (.cons (.ret (.var 2)) .nil)))
def d101 : DI := ⟨"_law_told", top 96, ["_law_thing_here", "_law_name_here", "_law_told_here"], 2⟩
def b102 : Ss := (.cons (.ite (.not (.var 2)) (.cons (.ret (.tup (.cons (.cst (.str [116, 97, 98, 108, 101])) (.cons (.cst .non) .nil)))) .nil) .nil) (.cons (.ite (.not (.call 29 (.cons (.var 1) .nil))) (.cons (.ret (.tup (.cons (.cst (.str [110, 97, 109, 101])) (.cons (.cst .non) .nil)))) .nil) .nil) (.cons (.loop (.one 3) (.seq (.ix (.var 0) (.cst (.int 1)))) (.cons (.ite (.cmp .eq (.ix (.var 3) (.cst (.int 0))) (.var 1)) (.cons (.ret (.tup (.cons (.cst (.str [116, 111, 108, 100])) (.cons (.sl (.var 3) (.some (.cst (.int 1))) .none) .nil)))) .nil) .nil) .nil)) (.cons (.ret (.tup (.cons (.cst (.str [116, 111, 108, 100])) (.cons (.tup (.cons (.tup (.cons (.cst (.int 0)) (.cons (.cst (.int 0)) (.cons (.cst (.int 0)) .nil)))) (.cons (.cst .non) .nil))) .nil)))) .nil))))
def d102 : DI := ⟨"_law_due", top 97, ["_law_thing_here", "_law_name_here", "_law_right", "_law_row"], 3⟩
def b103 : Ss := (.cons (.set 1 (.call 88 (.cons (.var 0) .nil))) (.cons (.set 2 (.call 94 (.cons (.var 0) (.cons (.var 1) .nil)))) (.cons (.set 3 (.call 35 (.cons (.var 0) (.cons (.var 2) .nil)))) (.cons (.set 4 (.bi .repr (.var 3))) (.cons (.set 5 (.call 87 (.cons (.var 3) .nil))) (.cons (.set 6 (.call 50 (.cons (.var 3) .nil))) (.cons (.ite (.or (.not (.call 87 (.cons (.var 2) .nil))) (.or (.not (.isi (.var 6) .bool)) (.cmp .ne (.var 6) (.var 5)))) (.cons (.ret (.cst (.bl false))) .nil) .nil) (.cons (.set 7 (.call 22 (.cons (.ix (.var 1) (.cst (.int 0))) (.cons (.cst (.int 0)) (.cons (.var 0) .nil))))) (.cons (.loop (.one 8) (.seq (.op .add (.var 1) (.lst (.disp (.cons (.call 18 (.cons (.var 0) .nil)) (.cons (.var 7) .nil)))))) (.cons (.set 9 (.call 101 (.cons (.var 3) (.cons (.var 8) .nil)))) (.cons (.set 10 (.call 102 (.cons (.var 3) (.cons (.var 8) (.cons (.var 5) .nil))))) (.cons (.ite (.or (.cmp .ne (.ix (.var 9) (.cst (.int 0))) (.ix (.var 10) (.cst (.int 0)))) (.not (.call 99 (.cons (.ix (.var 9) (.cst (.int 1))) (.cons (.ix (.var 10) (.cst (.int 1))) .nil))))) (.cons (.ret (.cst (.bl false))) .nil) .nil) .nil)))) (.cons (.ret (.cmp .eq (.bi .repr (.var 3)) (.var 4))) .nil))))))))))
def d103 : DI := ⟨"_law_one", top 98, ["_law_well_here", "_law_names", "_law_table_here", "_law_thing_here", "_law_before", "_law_right", "_law_told_here", "_law_odd", "_law_name_here", "_law_found", "_law_due_here"], 1⟩
def b104 : Ss := (.cons (.set 1 (.call 12 (.cons (.var 0) .nil))) (.cons (.ite (.or (.not (.call 99 (.cons (.call 53 .nil) (.cons (.tup (.cons (.cst (.int 0)) (.cons (.tup .nil) (.cons (.tup .nil) (.cons (.tup .nil) (.cons (.tup .nil) .nil)))))) .nil)))) (.cmp .isNotN (.call 50 (.cons (.call 53 .nil) .nil)) (.cst (.bl true)))) (.cons (.ret (.cst (.bl false))) .nil) .nil) (.cons (.loop (.one 2) (.rng (.op .add (.cst (.int 1)) (.call 14 (.cons (.var 1) (.cons (.cst (.int 3)) .nil))))) (.cons (.ite (.not (.call 103 (.cons (.var 1) .nil))) (.cons (.ret (.cst (.bl false))) .nil) .nil) .nil)) (.cons (.ret (.cst (.bl true))) .nil))))
def d104 : DI := ⟨"law", top 99, ["_law_script", "_law_well_here", "_law_turn"], 1⟩
def bodies : List Ss := [b0, b1, b2, b3, b4, b5, b6, b7, b8, b9, b10, b11, b12, b13, b14, b15, b16, b17, b18, b19, b20, b21, b22, b23, b24, b25, b26, b27, b28, b29, b30, b31, b32, b33, b34, b35, b36, b37, b38, b39, b40, b41, b42, b43, b44, b45, b46, b47, b48, b49, b50, b51, b52, b53, b54, b55, b56, b57, b58, b59, b60, b61, b62, b63, b64, b65, b66, b67, b68, b69, b70, b71, b72, b73, b74, b75, b76, b77, b78, b79, b80, b81, b82, b83, b84, b85, b86, b87, b88, b89, b90, b91, b92, b93, b94, b95, b96, b97, b98, b99, b100, b101, b102, b103, b104]
abbrev CodeOk (q : DI × Ss) : Prop := cSs 300 (q.1.ct pi) (defBody q.1.st) = some q.2 ∧ scopeB q.1.N q.1.params (defScope q.1.st) = true
def fns : List Def := [⟨1, 1, b0⟩, ⟨2, 2, b1⟩, ⟨1, 1, b2⟩, ⟨1, 1, b3⟩, ⟨1, 2, b4⟩, ⟨1, 1, b5⟩, ⟨1, 4, b6⟩, ⟨1, 1, b7⟩, ⟨3, 3, b8⟩, ⟨1, 3, b9⟩, ⟨1, 3, b10⟩, ⟨1, 1, b11⟩, ⟨1, 2, b12⟩, ⟨1, 2, b13⟩, ⟨2, 3, b14⟩, ⟨1, 2, b15⟩, ⟨0, 1, b16⟩, ⟨2, 4, b17⟩, ⟨1, 3, b18⟩, ⟨2, 5, b19⟩, ⟨1, 2, b20⟩, ⟨2, 4, b21⟩, ⟨3, 5, b22⟩, ⟨1, 2, b23⟩, ⟨1, 1, b24⟩, ⟨1, 1, b25⟩, ⟨1, 2, b26⟩, ⟨1, 1, b27⟩, ⟨2, 2, b28⟩, ⟨1, 2, b29⟩, ⟨1, 2, b30⟩, ⟨1, 1, b31⟩, ⟨1, 1, b32⟩, ⟨1, 2, b33⟩, ⟨1, 3, b34⟩, ⟨2, 5, b35⟩, ⟨1, 1, b36⟩, ⟨1, 1, b37⟩, ⟨1, 1, b38⟩, ⟨1, 1, b39⟩, ⟨1, 1, b40⟩, ⟨1, 1, b41⟩, ⟨2, 3, b42⟩, ⟨2, 4, b43⟩, ⟨1, 3, b44⟩, ⟨3, 4, b45⟩, ⟨2, 3, b46⟩, ⟨1, 1, b47⟩, ⟨1, 1, b48⟩, ⟨1, 1, b49⟩, ⟨1, 6, b50⟩, ⟨1, 1, b51⟩, ⟨1, 1, b52⟩, ⟨0, 0, b53⟩, ⟨2, 3, b54⟩, ⟨2, 2, b55⟩, ⟨1, 1, b56⟩, ⟨1, 1, b57⟩, ⟨1, 1, b58⟩, ⟨1, 1, b59⟩, ⟨1, 1, b60⟩, ⟨1, 1, b61⟩, ⟨1, 1, b62⟩, ⟨1, 1, b63⟩, ⟨1, 1, b64⟩, ⟨1, 1, b65⟩, ⟨1, 1, b66⟩, ⟨1, 1, b67⟩, ⟨1, 1, b68⟩, ⟨1, 1, b69⟩, ⟨1, 1, b70⟩, ⟨1, 1, b71⟩, ⟨1, 3, b72⟩, ⟨1, 1, b73⟩, ⟨1, 1, b74⟩, ⟨1, 1, b75⟩, ⟨1, 1, b76⟩, ⟨1, 1, b77⟩, ⟨3, 5, b78⟩, ⟨1, 1, b79⟩, ⟨1, 1, b80⟩, ⟨1, 1, b81⟩, ⟨1, 1, b82⟩, ⟨1, 1, b83⟩, ⟨1, 1, b84⟩, ⟨1, 1, b85⟩, ⟨1, 1, b86⟩, ⟨1, 1, b87⟩, ⟨1, 3, b88⟩, ⟨2, 2, b89⟩, ⟨1, 1, b90⟩, ⟨2, 5, b91⟩, ⟨3, 4, b92⟩, ⟨2, 2, b93⟩, ⟨2, 9, b94⟩, ⟨1, 1, b95⟩, ⟨1, 1, b96⟩, ⟨1, 1, b97⟩, ⟨1, 1, b98⟩, ⟨2, 3, b99⟩, ⟨1, 1, b100⟩, ⟨2, 3, b101⟩, ⟨3, 4, b102⟩, ⟨1, 11, b103⟩, ⟨1, 3, b104⟩]
noncomputable def pg : Prog := ⟨fns, reprP (clsOf pi), pi.gx, subP pi⟩
theorem c0 : CodeOk (d0, b0) := ⟨by kernel_rfl, by kernel_rfl⟩
theorem n0 : BindOk d0 := fun _ _ _ _ _ _ us hl => match us, hl with | [_], _ => rfl
theorem c1 : CodeOk (d1, b1) := ⟨by kernel_rfl, by kernel_rfl⟩
theorem n1 : BindOk d1 := fun _ _ _ _ _ _ us hl => match us, hl with | [_, _], _ => rfl
theorem c2 : CodeOk (d2, b2) := ⟨by kernel_rfl, by kernel_rfl⟩
theorem n2 : BindOk d2 := fun _ _ _ _ _ _ us hl => match us, hl with | [_], _ => rfl
theorem c3 : CodeOk (d3, b3) := ⟨by kernel_rfl, by kernel_rfl⟩
theorem n3 : BindOk d3 := fun _ _ _ _ _ _ us hl => match us, hl with | [_], _ => rfl
theorem c4 : CodeOk (d4, b4) := ⟨by kernel_rfl, by kernel_rfl⟩
theorem n4 : BindOk d4 := fun _ _ _ _ _ _ us hl => match us, hl with | [_], _ => rfl
theorem c5 : CodeOk (d5, b5) := ⟨by kernel_rfl, by kernel_rfl⟩
theorem n5 : BindOk d5 := fun _ _ _ _ _ _ us hl => match us, hl with | [_], _ => rfl
theorem c6 : CodeOk (d6, b6) := ⟨by kernel_rfl, by kernel_rfl⟩
theorem n6 : BindOk d6 := fun _ _ _ _ _ _ us hl => match us, hl with | [_], _ => rfl
theorem c7 : CodeOk (d7, b7) := ⟨by kernel_rfl, by kernel_rfl⟩
theorem n7 : BindOk d7 := fun _ _ _ _ _ _ us hl => match us, hl with | [_], _ => rfl
theorem c8 : CodeOk (d8, b8) := ⟨by kernel_rfl, by kernel_rfl⟩
theorem n8 : BindOk d8 := fun _ _ _ _ _ _ us hl => match us, hl with | [_, _, _], _ => rfl
theorem c9 : CodeOk (d9, b9) := ⟨by kernel_rfl, by kernel_rfl⟩
theorem n9 : BindOk d9 := fun _ _ _ _ _ _ us hl => match us, hl with | [_], _ => rfl
theorem c10 : CodeOk (d10, b10) := ⟨by kernel_rfl, by kernel_rfl⟩
theorem n10 : BindOk d10 := fun _ _ _ _ _ _ us hl => match us, hl with | [_], _ => rfl
theorem c11 : CodeOk (d11, b11) := ⟨by kernel_rfl, by kernel_rfl⟩
theorem n11 : BindOk d11 := fun _ _ _ _ _ _ us hl => match us, hl with | [_], _ => rfl
theorem c12 : CodeOk (d12, b12) := ⟨by kernel_rfl, by kernel_rfl⟩
theorem n12 : BindOk d12 := fun _ _ _ _ _ _ us hl => match us, hl with | [_], _ => rfl
theorem c13 : CodeOk (d13, b13) := ⟨by kernel_rfl, by kernel_rfl⟩
theorem n13 : BindOk d13 := fun _ _ _ _ _ _ us hl => match us, hl with | [_], _ => rfl
theorem c14 : CodeOk (d14, b14) := ⟨by kernel_rfl, by kernel_rfl⟩
theorem n14 : BindOk d14 := fun _ _ _ _ _ _ us hl => match us, hl with | [_, _], _ => rfl
theorem c15 : CodeOk (d15, b15) := ⟨by kernel_rfl, by kernel_rfl⟩
theorem n15 : BindOk d15 := fun _ _ _ _ _ _ us hl => match us, hl with | [_], _ => rfl
theorem c16 : CodeOk (d16, b16) := ⟨by kernel_rfl, by kernel_rfl⟩
theorem n16 : BindOk d16 := fun _ _ _ _ _ _ us hl => match us, hl with | [], _ => rfl
theorem c17 : CodeOk (d17, b17) := ⟨by kernel_rfl, by kernel_rfl⟩
theorem n17 : BindOk d17 := fun _ _ _ _ _ _ us hl => match us, hl with | [_, _], _ => rfl
theorem c18 : CodeOk (d18, b18) := ⟨by kernel_rfl, by kernel_rfl⟩
theorem n18 : BindOk d18 := fun _ _ _ _ _ _ us hl => match us, hl with | [_], _ => rfl
theorem c19 : CodeOk (d19, b19) := ⟨by kernel_rfl, by kernel_rfl⟩
theorem n19 : BindOk d19 := fun _ _ _ _ _ _ us hl => match us, hl with | [_, _], _ => rfl
theorem c20 : CodeOk (d20, b20) := ⟨by kernel_rfl, by kernel_rfl⟩
theorem n20 : BindOk d20 := fun _ _ _ _ _ _ us hl => match us, hl with | [_], _ => rfl
theorem c21 : CodeOk (d21, b21) := ⟨by kernel_rfl, by kernel_rfl⟩
theorem n21 : BindOk d21 := fun _ _ _ _ _ _ us hl => match us, hl with | [_, _], _ => rfl
theorem c22 : CodeOk (d22, b22) := ⟨by kernel_rfl, by kernel_rfl⟩
theorem n22 : BindOk d22 := fun _ _ _ _ _ _ us hl => match us, hl with | [_, _, _], _ => rfl
theorem c23 : CodeOk (d23, b23) := ⟨by kernel_rfl, by kernel_rfl⟩
theorem n23 : BindOk d23 := fun _ _ _ _ _ _ us hl => match us, hl with | [_], _ => rfl
theorem c24 : CodeOk (d24, b24) := ⟨by kernel_rfl, by kernel_rfl⟩
theorem n24 : BindOk d24 := fun _ _ _ _ _ _ us hl => match us, hl with | [_], _ => rfl
theorem c25 : CodeOk (d25, b25) := ⟨by kernel_rfl, by kernel_rfl⟩
theorem n25 : BindOk d25 := fun _ _ _ _ _ _ us hl => match us, hl with | [_], _ => rfl
theorem c26 : CodeOk (d26, b26) := ⟨by kernel_rfl, by kernel_rfl⟩
theorem n26 : BindOk d26 := fun _ _ _ _ _ _ us hl => match us, hl with | [_], _ => rfl
theorem c27 : CodeOk (d27, b27) := ⟨by kernel_rfl, by kernel_rfl⟩
theorem n27 : BindOk d27 := fun _ _ _ _ _ _ us hl => match us, hl with | [_], _ => rfl
theorem c28 : CodeOk (d28, b28) := ⟨by kernel_rfl, by kernel_rfl⟩
theorem n28 : BindOk d28 := fun _ _ _ _ _ _ us hl => match us, hl with | [_, _], _ => rfl
theorem c29 : CodeOk (d29, b29) := ⟨by kernel_rfl, by kernel_rfl⟩
theorem n29 : BindOk d29 := fun _ _ _ _ _ _ us hl => match us, hl with | [_], _ => rfl
theorem c30 : CodeOk (d30, b30) := ⟨by kernel_rfl, by kernel_rfl⟩
theorem n30 : BindOk d30 := fun _ _ _ _ _ _ us hl => match us, hl with | [_], _ => rfl
theorem c31 : CodeOk (d31, b31) := ⟨by kernel_rfl, by kernel_rfl⟩
theorem n31 : BindOk d31 := fun _ _ _ _ _ _ us hl => match us, hl with | [_], _ => rfl
theorem c32 : CodeOk (d32, b32) := ⟨by kernel_rfl, by kernel_rfl⟩
theorem n32 : BindOk d32 := fun _ _ _ _ _ _ us hl => match us, hl with | [_], _ => rfl
theorem c33 : CodeOk (d33, b33) := ⟨by kernel_rfl, by kernel_rfl⟩
theorem n33 : BindOk d33 := fun _ _ _ _ _ _ us hl => match us, hl with | [_], _ => rfl
theorem c34 : CodeOk (d34, b34) := ⟨by kernel_rfl, by kernel_rfl⟩
theorem n34 : BindOk d34 := fun _ _ _ _ _ _ us hl => match us, hl with | [_], _ => rfl
theorem c35 : CodeOk (d35, b35) := ⟨by kernel_rfl, by kernel_rfl⟩
theorem n35 : BindOk d35 := fun _ _ _ _ _ _ us hl => match us, hl with | [_, _], _ => rfl
theorem c36 : CodeOk (d36, b36) := ⟨by kernel_rfl, by kernel_rfl⟩
theorem n36 : BindOk d36 := fun _ _ _ _ _ _ us hl => match us, hl with | [_], _ => rfl
theorem c37 : CodeOk (d37, b37) := ⟨by kernel_rfl, by kernel_rfl⟩
theorem n37 : BindOk d37 := fun _ _ _ _ _ _ us hl => match us, hl with | [_], _ => rfl
theorem c38 : CodeOk (d38, b38) := ⟨by kernel_rfl, by kernel_rfl⟩
theorem n38 : BindOk d38 := fun _ _ _ _ _ _ us hl => match us, hl with | [_], _ => rfl
theorem c39 : CodeOk (d39, b39) := ⟨by kernel_rfl, by kernel_rfl⟩
theorem n39 : BindOk d39 := fun _ _ _ _ _ _ us hl => match us, hl with | [_], _ => rfl
theorem c40 : CodeOk (d40, b40) := ⟨by kernel_rfl, by kernel_rfl⟩
theorem n40 : BindOk d40 := fun _ _ _ _ _ _ us hl => match us, hl with | [_], _ => rfl
theorem c41 : CodeOk (d41, b41) := ⟨by kernel_rfl, by kernel_rfl⟩
theorem n41 : BindOk d41 := fun _ _ _ _ _ _ us hl => match us, hl with | [_], _ => rfl
theorem c42 : CodeOk (d42, b42) := ⟨by kernel_rfl, by kernel_rfl⟩
theorem n42 : BindOk d42 := fun _ _ _ _ _ _ us hl => match us, hl with | [_, _], _ => rfl
theorem c43 : CodeOk (d43, b43) := ⟨by kernel_rfl, by kernel_rfl⟩
theorem n43 : BindOk d43 := fun _ _ _ _ _ _ us hl => match us, hl with | [_, _], _ => rfl
theorem c44 : CodeOk (d44, b44) := ⟨by kernel_rfl, by kernel_rfl⟩
theorem n44 : BindOk d44 := fun _ _ _ _ _ _ us hl => match us, hl with | [_], _ => rfl
theorem c45 : CodeOk (d45, b45) := ⟨by kernel_rfl, by kernel_rfl⟩
theorem n45 : BindOk d45 := fun _ _ _ _ _ _ us hl => match us, hl with | [_, _, _], _ => rfl
theorem c46 : CodeOk (d46, b46) := ⟨by kernel_rfl, by kernel_rfl⟩
theorem n46 : BindOk d46 := fun _ _ _ _ _ _ us hl => match us, hl with | [_, _], _ => rfl
theorem c47 : CodeOk (d47, b47) := ⟨by kernel_rfl, by kernel_rfl⟩
theorem n47 : BindOk d47 := fun _ _ _ _ _ _ us hl => match us, hl with | [_], _ => rfl
theorem c48 : CodeOk (d48, b48) := ⟨by kernel_rfl, by kernel_rfl⟩
theorem n48 : BindOk d48 := fun _ _ _ _ _ _ us hl => match us, hl with | [_], _ => rfl
theorem c49 : CodeOk (d49, b49) := ⟨by kernel_rfl, by kernel_rfl⟩
theorem n49 : BindOk d49 := fun _ _ _ _ _ _ us hl => match us, hl with | [_], _ => rfl
theorem c50 : CodeOk (d50, b50) := ⟨by kernel_rfl, by kernel_rfl⟩
theorem n50 : BindOk d50 := fun _ _ _ _ _ _ us hl => match us, hl with | [_], _ => rfl
theorem c51 : CodeOk (d51, b51) := ⟨by kernel_rfl, by kernel_rfl⟩
theorem n51 : BindOk d51 := fun _ _ _ _ _ _ us hl => match us, hl with | [_], _ => rfl
theorem c52 : CodeOk (d52, b52) := ⟨by kernel_rfl, by kernel_rfl⟩
theorem n52 : BindOk d52 := fun _ _ _ _ _ _ us hl => match us, hl with | [_], _ => rfl
theorem c53 : CodeOk (d53, b53) := ⟨by kernel_rfl, by kernel_rfl⟩
theorem n53 : BindOk d53 := fun _ _ _ _ _ _ us hl => match us, hl with | [], _ => rfl
theorem c54 : CodeOk (d54, b54) := ⟨by kernel_rfl, by kernel_rfl⟩
theorem n54 : BindOk d54 := fun _ _ _ _ _ _ us hl => match us, hl with | [_, _], _ => rfl
theorem c55 : CodeOk (d55, b55) := ⟨by kernel_rfl, by kernel_rfl⟩
theorem n55 : BindOk d55 := fun _ _ _ _ _ _ us hl => match us, hl with | [_, _], _ => rfl
theorem c56 : CodeOk (d56, b56) := ⟨by kernel_rfl, by kernel_rfl⟩
theorem n56 : BindOk d56 := fun _ _ _ _ _ _ us hl => match us, hl with | [_], _ => rfl
theorem c57 : CodeOk (d57, b57) := ⟨by kernel_rfl, by kernel_rfl⟩
theorem n57 : BindOk d57 := fun _ _ _ _ _ _ us hl => match us, hl with | [_], _ => rfl
theorem c58 : CodeOk (d58, b58) := ⟨by kernel_rfl, by kernel_rfl⟩
theorem n58 : BindOk d58 := fun _ _ _ _ _ _ us hl => match us, hl with | [_], _ => rfl
theorem c59 : CodeOk (d59, b59) := ⟨by kernel_rfl, by kernel_rfl⟩
theorem n59 : BindOk d59 := fun _ _ _ _ _ _ us hl => match us, hl with | [_], _ => rfl
theorem c60 : CodeOk (d60, b60) := ⟨by kernel_rfl, by kernel_rfl⟩
theorem n60 : BindOk d60 := fun _ _ _ _ _ _ us hl => match us, hl with | [_], _ => rfl
theorem c61 : CodeOk (d61, b61) := ⟨by kernel_rfl, by kernel_rfl⟩
theorem n61 : BindOk d61 := fun _ _ _ _ _ _ us hl => match us, hl with | [_], _ => rfl
theorem c62 : CodeOk (d62, b62) := ⟨by kernel_rfl, by kernel_rfl⟩
theorem n62 : BindOk d62 := fun _ _ _ _ _ _ us hl => match us, hl with | [_], _ => rfl
theorem c63 : CodeOk (d63, b63) := ⟨by kernel_rfl, by kernel_rfl⟩
theorem n63 : BindOk d63 := fun _ _ _ _ _ _ us hl => match us, hl with | [_], _ => rfl
theorem c64 : CodeOk (d64, b64) := ⟨by kernel_rfl, by kernel_rfl⟩
theorem n64 : BindOk d64 := fun _ _ _ _ _ _ us hl => match us, hl with | [_], _ => rfl
theorem c65 : CodeOk (d65, b65) := ⟨by kernel_rfl, by kernel_rfl⟩
theorem n65 : BindOk d65 := fun _ _ _ _ _ _ us hl => match us, hl with | [_], _ => rfl
theorem c66 : CodeOk (d66, b66) := ⟨by kernel_rfl, by kernel_rfl⟩
theorem n66 : BindOk d66 := fun _ _ _ _ _ _ us hl => match us, hl with | [_], _ => rfl
theorem c67 : CodeOk (d67, b67) := ⟨by kernel_rfl, by kernel_rfl⟩
theorem n67 : BindOk d67 := fun _ _ _ _ _ _ us hl => match us, hl with | [_], _ => rfl
theorem c68 : CodeOk (d68, b68) := ⟨by kernel_rfl, by kernel_rfl⟩
theorem n68 : BindOk d68 := fun _ _ _ _ _ _ us hl => match us, hl with | [_], _ => rfl
theorem c69 : CodeOk (d69, b69) := ⟨by kernel_rfl, by kernel_rfl⟩
theorem n69 : BindOk d69 := fun _ _ _ _ _ _ us hl => match us, hl with | [_], _ => rfl
theorem c70 : CodeOk (d70, b70) := ⟨by kernel_rfl, by kernel_rfl⟩
theorem n70 : BindOk d70 := fun _ _ _ _ _ _ us hl => match us, hl with | [_], _ => rfl
theorem c71 : CodeOk (d71, b71) := ⟨by kernel_rfl, by kernel_rfl⟩
theorem n71 : BindOk d71 := fun _ _ _ _ _ _ us hl => match us, hl with | [_], _ => rfl
theorem c72 : CodeOk (d72, b72) := ⟨by kernel_rfl, by kernel_rfl⟩
theorem n72 : BindOk d72 := fun _ _ _ _ _ _ us hl => match us, hl with | [_], _ => rfl
theorem c73 : CodeOk (d73, b73) := ⟨by kernel_rfl, by kernel_rfl⟩
theorem n73 : BindOk d73 := fun _ _ _ _ _ _ us hl => match us, hl with | [_], _ => rfl
theorem c74 : CodeOk (d74, b74) := ⟨by kernel_rfl, by kernel_rfl⟩
theorem n74 : BindOk d74 := fun _ _ _ _ _ _ us hl => match us, hl with | [_], _ => rfl
theorem c75 : CodeOk (d75, b75) := ⟨by kernel_rfl, by kernel_rfl⟩
theorem n75 : BindOk d75 := fun _ _ _ _ _ _ us hl => match us, hl with | [_], _ => rfl
theorem c76 : CodeOk (d76, b76) := ⟨by kernel_rfl, by kernel_rfl⟩
theorem n76 : BindOk d76 := fun _ _ _ _ _ _ us hl => match us, hl with | [_], _ => rfl
theorem c77 : CodeOk (d77, b77) := ⟨by kernel_rfl, by kernel_rfl⟩
theorem n77 : BindOk d77 := fun _ _ _ _ _ _ us hl => match us, hl with | [_], _ => rfl
theorem c78 : CodeOk (d78, b78) := ⟨by kernel_rfl, by kernel_rfl⟩
theorem n78 : BindOk d78 := fun _ _ _ _ _ _ us hl => match us, hl with | [_, _, _], _ => rfl
theorem c79 : CodeOk (d79, b79) := ⟨by kernel_rfl, by kernel_rfl⟩
theorem n79 : BindOk d79 := fun _ _ _ _ _ _ us hl => match us, hl with | [_], _ => rfl
theorem c80 : CodeOk (d80, b80) := ⟨by kernel_rfl, by kernel_rfl⟩
theorem n80 : BindOk d80 := fun _ _ _ _ _ _ us hl => match us, hl with | [_], _ => rfl
theorem c81 : CodeOk (d81, b81) := ⟨by kernel_rfl, by kernel_rfl⟩
theorem n81 : BindOk d81 := fun _ _ _ _ _ _ us hl => match us, hl with | [_], _ => rfl
theorem c82 : CodeOk (d82, b82) := ⟨by kernel_rfl, by kernel_rfl⟩
theorem n82 : BindOk d82 := fun _ _ _ _ _ _ us hl => match us, hl with | [_], _ => rfl
theorem c83 : CodeOk (d83, b83) := ⟨by kernel_rfl, by kernel_rfl⟩
theorem n83 : BindOk d83 := fun _ _ _ _ _ _ us hl => match us, hl with | [_], _ => rfl
theorem c84 : CodeOk (d84, b84) := ⟨by kernel_rfl, by kernel_rfl⟩
theorem n84 : BindOk d84 := fun _ _ _ _ _ _ us hl => match us, hl with | [_], _ => rfl
theorem c85 : CodeOk (d85, b85) := ⟨by kernel_rfl, by kernel_rfl⟩
theorem n85 : BindOk d85 := fun _ _ _ _ _ _ us hl => match us, hl with | [_], _ => rfl
theorem c86 : CodeOk (d86, b86) := ⟨by kernel_rfl, by kernel_rfl⟩
theorem n86 : BindOk d86 := fun _ _ _ _ _ _ us hl => match us, hl with | [_], _ => rfl
theorem c87 : CodeOk (d87, b87) := ⟨by kernel_rfl, by kernel_rfl⟩
theorem n87 : BindOk d87 := fun _ _ _ _ _ _ us hl => match us, hl with | [_], _ => rfl
theorem c88 : CodeOk (d88, b88) := ⟨by kernel_rfl, by kernel_rfl⟩
theorem n88 : BindOk d88 := fun _ _ _ _ _ _ us hl => match us, hl with | [_], _ => rfl
theorem c89 : CodeOk (d89, b89) := ⟨by kernel_rfl, by kernel_rfl⟩
theorem n89 : BindOk d89 := fun _ _ _ _ _ _ us hl => match us, hl with | [_, _], _ => rfl
theorem c90 : CodeOk (d90, b90) := ⟨by kernel_rfl, by kernel_rfl⟩
theorem n90 : BindOk d90 := fun _ _ _ _ _ _ us hl => match us, hl with | [_], _ => rfl
theorem c91 : CodeOk (d91, b91) := ⟨by kernel_rfl, by kernel_rfl⟩
theorem n91 : BindOk d91 := fun _ _ _ _ _ _ us hl => match us, hl with | [_, _], _ => rfl
theorem c92 : CodeOk (d92, b92) := ⟨by kernel_rfl, by kernel_rfl⟩
theorem n92 : BindOk d92 := fun _ _ _ _ _ _ us hl => match us, hl with | [_, _, _], _ => rfl
theorem c93 : CodeOk (d93, b93) := ⟨by kernel_rfl, by kernel_rfl⟩
theorem n93 : BindOk d93 := fun _ _ _ _ _ _ us hl => match us, hl with | [_, _], _ => rfl
theorem c94 : CodeOk (d94, b94) := ⟨by kernel_rfl, by kernel_rfl⟩
theorem n94 : BindOk d94 := fun _ _ _ _ _ _ us hl => match us, hl with | [_, _], _ => rfl
theorem c95 : CodeOk (d95, b95) := ⟨by kernel_rfl, by kernel_rfl⟩
theorem n95 : BindOk d95 := fun _ _ _ _ _ _ us hl => match us, hl with | [_], _ => rfl
theorem c96 : CodeOk (d96, b96) := ⟨by kernel_rfl, by kernel_rfl⟩
theorem n96 : BindOk d96 := fun _ _ _ _ _ _ us hl => match us, hl with | [_], _ => rfl
theorem c97 : CodeOk (d97, b97) := ⟨by kernel_rfl, by kernel_rfl⟩
theorem n97 : BindOk d97 := fun _ _ _ _ _ _ us hl => match us, hl with | [_], _ => rfl
theorem c98 : CodeOk (d98, b98) := ⟨by kernel_rfl, by kernel_rfl⟩
theorem n98 : BindOk d98 := fun _ _ _ _ _ _ us hl => match us, hl with | [_], _ => rfl
theorem c99 : CodeOk (d99, b99) := ⟨by kernel_rfl, by kernel_rfl⟩
theorem n99 : BindOk d99 := fun _ _ _ _ _ _ us hl => match us, hl with | [_, _], _ => rfl
theorem c100 : CodeOk (d100, b100) := ⟨by kernel_rfl, by kernel_rfl⟩
theorem n100 : BindOk d100 := fun _ _ _ _ _ _ us hl => match us, hl with | [_], _ => rfl
theorem c101 : CodeOk (d101, b101) := ⟨by kernel_rfl, by kernel_rfl⟩
theorem n101 : BindOk d101 := fun _ _ _ _ _ _ us hl => match us, hl with | [_, _], _ => rfl
theorem c102 : CodeOk (d102, b102) := ⟨by kernel_rfl, by kernel_rfl⟩
theorem n102 : BindOk d102 := fun _ _ _ _ _ _ us hl => match us, hl with | [_, _, _], _ => rfl
theorem c103 : CodeOk (d103, b103) := ⟨by kernel_rfl, by kernel_rfl⟩
theorem n103 : BindOk d103 := fun _ _ _ _ _ _ us hl => match us, hl with | [_], _ => rfl
theorem c104 : CodeOk (d104, b104) := ⟨by kernel_rfl, by kernel_rfl⟩
theorem n104 : BindOk d104 := fun _ _ _ _ _ _ us hl => match us, hl with | [_], _ => rfl
theorem codes : AllL CodeOk (pi.defs.zip bodies) := ⟨c0, c1, c2, c3, c4, c5, c6, c7, c8, c9, c10, c11, c12, c13, c14, c15, c16, c17, c18, c19, c20, c21, c22, c23, c24, c25, c26, c27, c28, c29, c30, c31, c32, c33, c34, c35, c36, c37, c38, c39, c40, c41, c42, c43, c44, c45, c46, c47, c48, c49, c50, c51, c52, c53, c54, c55, c56, c57, c58, c59, c60, c61, c62, c63, c64, c65, c66, c67, c68, c69, c70, c71, c72, c73, c74, c75, c76, c77, c78, c79, c80, c81, c82, c83, c84, c85, c86, c87, c88, c89, c90, c91, c92, c93, c94, c95, c96, c97, c98, c99, c100, c101, c102, c103, c104, trivial⟩
theorem binds : AllL BindOk pi.defs := ⟨n0, n1, n2, n3, n4, n5, n6, n7, n8, n9, n10, n11, n12, n13, n14, n15, n16, n17, n18, n19, n20, n21, n22, n23, n24, n25, n26, n27, n28, n29, n30, n31, n32, n33, n34, n35, n36, n37, n38, n39, n40, n41, n42, n43, n44, n45, n46, n47, n48, n49, n50, n51, n52, n53, n54, n55, n56, n57, n58, n59, n60, n61, n62, n63, n64, n65, n66, n67, n68, n69, n70, n71, n72, n73, n74, n75, n76, n77, n78, n79, n80, n81, n82, n83, n84, n85, n86, n87, n88, n89, n90, n91, n92, n93, n94, n95, n96, n97, n98, n99, n100, n101, n102, n103, n104, trivial⟩
theorem same : pi.defs.length = bodies.length := rfl
theorem fns_eq : pg.defs = defsOf pi.defs bodies := rfl
end K3
end K3CodeS

section K3HeadS
set_option Elab.async false
set_option linter.all false
set_option maxRecDepth 100000
set_option maxHeartbeats 0
namespace K3
open PySem L2 Mi
def loose0 : List Str := ["is_whole", "is_whole_from", "is_count", "is_number", "is_client", "has_plain_signs", "is_name", "is_text", "is_stamp", "is_base", "is_text_or_none", "is_kind", "is_done_word", "is_talk", "is_worded", "is_splice", "is_text_edit", "is_edit", "is_part", "has_form", "is_ascending", "is_rows", "row_of", "bare_table", "is_files", "is_table", "file_at", "file_of", "_law_mixed", "_law_well"]
def loose1 : List Str := ["_law_filled", "_law_draw", "_law_number", "_law_signs", "_law_string", "_law_name", "_law_unlike", "_law_any", "_law_nodes", "_law_changed", "_law_spoilt", "_law_text", "_law_content", "_law_client", "_law_stamp", "_law_base", "_law_kind", "_law_talk", "_law_edit", "_law_count", "_law_long", "_law_name_fits", "_law_text_fits", "_law_client_fits", "_law_pair_fits", "_law_stamp_fits", "_law_base_fits", "_law_edit_fits", "_law_rows_fit", "_law_content_fits"]
def loose2 : List Str := ["_law_kind_fits", "_law_word_fits", "_law_talk_fits", "_law_file_fits", "_law_lease_fits", "_law_done_fits", "_law_aside_fits", "_law_table_fits", "_law_pool", "_law_of", "_law_word", "_law_keyed", "_law_lease_row", "_law_aside_row", "_law_table", "_law_alike", "_law_thing", "_law_told", "_law_due", "_law_one", "LeaseError", "NoTable", "NoName", "LONGEST_NAME", "LONGEST_TEXT", "LAST_CLIENT", "FIRST_STAMP", "KINDS", "DONE_WORDS", "JUDGES"]
def loose3 : List Str := ["FILE", "LEASE", "DONE", "ASIDE"]
def loose : List Str := loose0 ++ loose1 ++ loose2 ++ loose3
abbrev R : PySem.W.OpenRow := PySem.W.OpenLaw.row PySem.Challenge.rw_leasefiles_k03_tables_judged_and_read
abbrev hk : PySem.W.Hook := hookM 2 pi
def ob (s : PySem.W.SharedT) : AlM := obsMG 2 pi (HandSHeadRun.getT s)
theorem ob_eq (s : PySem.W.SharedT) : ob s = hk.obs s.abs := obsMG_eq (HandSHeadRun.getT_eq s)
theorem map_pair {A B C D : Type} {x : Option A} {f : A → B} {g : A → C} {h : A → D} {a : B} {b : C} {c : D} (h1 : x.map (fun s => (f s, g s)) = some (a, b)) (h2 : x.map h = some c) : x.map (fun s => (f s, g s, h s)) = some (a, b, c) := by
  cases x with
  | none => cases h1
  | some s =>
    have e1 : (f s, g s) = (a, b) := Option.some.inj h1
    have e2 : h s = c := Option.some.inj h2
    have e3 : f s = a := congrArg Prod.fst e1
    have e4 : g s = b := congrArg Prod.snd e1
    show some (f s, g s, h s) = some (a, b, c)
    rw [e2, e3, e4]
open HandSHeadRun PySem.W
theorem oneA (w : World) (os : OsState) : (endF (stepQ (denQ tabQ) R.prog (w.withFollow "special-get-raises" false)) 4000 R.prog (w.withFollow "special-get-raises" false) os).map (fun s => (looksF R.prog (boot_heap (w.withFollow "special-get-raises" false).params) s.abs, seenQ (PySem.W.view R.prog [99]) loose (importedModules R.prog.main.body) (fun s => xlAt (PySem.W.view R.prog [99]) [] s && recOk R.toRowW.records s) s.abs)) = some (true, openGood (PySem.W.view R.prog [99]) loose) := by
  kernel_rfl
theorem twoA (w : World) (os : OsState) : (endF (stepQ (denQ tabQ) R.prog (w.withFollow "special-get-raises" false)) 4000 R.prog (w.withFollow "special-get-raises" false) os).map (fun s => ob s) = some (hk.val (w.withFollow "special-get-raises" false)) := by
  kernel_rfl
theorem runA (w : World) : HandSHeadRun.RunEq R (PySem.W.view R.prog [99]) hk ob 4000 loose (w.withFollow "special-get-raises" false) := by
  intro os
  exact map_pair (oneA w os) (twoA w os)
theorem oneB (w : World) (os : OsState) : (endF (stepQ (denQ tabQ) R.prog (w.withFollow "special-get-raises" true)) 4000 R.prog (w.withFollow "special-get-raises" true) os).map (fun s => (looksF R.prog (boot_heap (w.withFollow "special-get-raises" true).params) s.abs, seenQ (PySem.W.view R.prog [99]) loose (importedModules R.prog.main.body) (fun s => xlAt (PySem.W.view R.prog [99]) [] s && recOk R.toRowW.records s) s.abs)) = some (true, openGood (PySem.W.view R.prog [99]) loose) := by
  kernel_rfl
theorem twoB (w : World) (os : OsState) : (endF (stepQ (denQ tabQ) R.prog (w.withFollow "special-get-raises" true)) 4000 R.prog (w.withFollow "special-get-raises" true) os).map (fun s => ob s) = some (hk.val (w.withFollow "special-get-raises" true)) := by
  kernel_rfl
theorem runB (w : World) : HandSHeadRun.RunEq R (PySem.W.view R.prog [99]) hk ob 4000 loose (w.withFollow "special-get-raises" true) := by
  intro os
  exact map_pair (oneB w os) (twoB w os)
theorem run (w : World) : HandSHeadRun.RunEq R (PySem.W.view R.prog [99]) hk ob 4000 loose w := by
  exact PySem.W.byRow2 "special-get-raises" (P := fun w => HandSHeadRun.RunEq R (PySem.W.view R.prog [99]) hk ob 4000 loose w) runA runB w
end K3
end K3HeadS

section K3KAS
set_option Elab.async false
set_option linter.all false
set_option maxRecDepth 100000
set_option maxHeartbeats 0
namespace K3
open Mi
def inM (M : Store) : Val → Prop
  | .ref k => k < M.length
  | .fn _ => False
  | _ => True
theorem gotO {M : Store} {k : Nat} (h : inM M (.ref k)) : ∃ o, M[k]? = some o := ⟨_, List.getElem?_eq_getElem h⟩
def isW : Val → Bool
  | .int _ => true
  | _ => false
def isB : Val → Bool
  | .bl _ => true
  | _ => false
def isS : Val → Bool
  | .str _ => true
  | _ => false
def isT : Val → Bool
  | .tup _ => true
  | _ => false
theorem isOf_int {M : Store} {x : Val} (h : inM M x) : isOf .int x M = some (isW x || isB x) := by
  cases x with
  | ref k =>
    obtain ⟨o, ho⟩ := gotO h
    simp only [isOf, ho]
    cases o <;> rfl
  | fn x => exact h.elim
  | _ => rfl
theorem isOf_bool {M : Store} {x : Val} (h : inM M x) : isOf .bool x M = some (isB x) := by
  cases x with
  | ref k =>
    obtain ⟨o, ho⟩ := gotO h
    simp only [isOf, ho]
    cases o <;> rfl
  | fn x => exact h.elim
  | _ => rfl
theorem isOf_str {M : Store} {x : Val} (h : inM M x) : isOf .str x M = some (isS x) := by
  cases x with
  | ref k =>
    obtain ⟨o, ho⟩ := gotO h
    simp only [isOf, ho]
    cases o <;> rfl
  | fn x => exact h.elim
  | _ => rfl
theorem isOf_tuple {M : Store} {x : Val} (h : inM M x) : isOf .tuple x M = some (isT x) := by
  cases x with
  | ref k =>
    obtain ⟨o, ho⟩ := gotO h
    simp only [isOf, ho]
    cases o <;> rfl
  | fn x => exact h.elim
  | _ => rfl
theorem c_whole (n : Nat) (x : Val) (M : Store) (h : inM M x) : call pg (n + 1) 0 [x] M = .ok (.bl (isW x)) M := by
  rw [call_s pg n 0 [x] M ⟨1, 1, b0⟩ rfl rfl]
  simp [b0, start, isOf_int h, isOf_bool h, truth]
  cases x <;> simp [isW, isB]
def fromB (x : Val) (l : Int) : Bool := match x with
  | .int i => decide (l ≤ i)
  | _ => false
theorem c_from (n : Nat) (x : Val) (l : Int) (M : Store) (h : inM M x) : call pg (n + 2) 1 [x, .int l] M = .ok (.bl (fromB x l)) M := by
  rw [call_s pg (n + 1) 1 _ M ⟨2, 2, b1⟩ rfl rfl]
  simp [b1, start, c_whole n x M h, truth]
  cases x <;> simp [isW, fromB]
def cliB (x : Val) : Bool := match x with
  | .int i => decide (1 ≤ i) && decide (i ≤ 9)
  | _ => false
theorem c_client (n : Nat) (x : Val) (M : Store) (h : inM M x) : call pg (n + 3) 2 [x] M = .ok (.bl (cliB x)) M := by
  rw [call_s pg (n + 2) 2 _ M ⟨1, 1, b2⟩ rfl rfl]
  simp [b2, start, c_from n x 1 M h, truth]
  cases x with
  | int i => by_cases hi : 1 ≤ i <;> simp [fromB, cliB, hi]
  | _ => simp [fromB, cliB]
def plainB (s : List Nat) : Bool := s.all fun c => decide (32 ≤ c ∧ c ≤ 126)
theorem c_plain (n : Nat) (s : List Nat) (M : Store) : call pg (n + 1) 3 [.str s] M = .ok (.bl (plainB s)) M := by
  rw [call_s pg n 3 _ M ⟨1, 1, b3⟩ rfl rfl]
  simp [b3, start, truth, mt1, plainB]
def textB (x : Val) : Bool := match x with
  | .str s => decide ((s.length : Int) ≤ 96) && plainB s
  | _ => false
theorem c_text (n : Nat) (x : Val) (M : Store) (h : inM M x) : call pg (n + 2) 5 [x] M = .ok (.bl (textB x)) M := by
  rw [call_s pg (n + 1) 5 _ M ⟨1, 1, b5⟩ rfl rfl]
  simp [b5, start, isOf_str h, truth]
  cases x with
  | str s => by_cases hs : (s.length : Int) ≤ 96 <;> simp [isS, textB, bi1, lenV, truth, c_plain, hs]
  | _ => simp [isS, textB]
def letterB (s : List Nat) : Bool := s.all fun c => decide (97 ≤ c ∧ c ≤ 122)
def short (x : Val) : Prop := match x with
  | .str s => s.length ≤ LIM
  | .tup xs => xs.length ≤ LIM
  | _ => True
def nameB0 (x : Val) : Bool := match x with
  | .str s => decide (1 ≤ (s.length : Int)) && decide ((s.length : Int) ≤ 8) && letterB s
  | _ => false
def sgn : Val → Nat
  | .str [c] => c
  | _ => 0
theorem all_signs (s : List Nat) (p : Nat → Bool) : ((s.map fun c => Val.str [c]).all fun x => p (sgn x)) = s.all p := by
  rw [List.all_map]; rfl
theorem le_sign (a c : Nat) : (!decide ([c] < [a])) = decide (a ≤ c) := by
  have : ([c] < [a]) ↔ c < a := by
    rw [List.cons_lt_cons_iff]
    constructor
    · rintro (h | ⟨_, h⟩)
      · exact h
      · cases h
    · exact .inl
  by_cases h : c < a
  · rw [decide_eq_true (this.mpr h), decide_eq_false (by omega)]; rfl
  · rw [decide_eq_false (fun z => h (this.mp z)), decide_eq_true (by omega)]; rfl
theorem c_name (n : Nat) (x : Val) (M : Store) (h : inM M x) : call pg (n + 1) 4 [x] M = .ok (.bl (nameB0 x)) M := by
  rw [call_s pg n 4 _ M ⟨1, 2, b4⟩ rfl rfl]
  cases x with
  | str s =>
    by_cases h1 : 1 ≤ (s.length : Int)
    · by_cases h2 : (s.length : Int) ≤ 8
      · have hl : (s.map fun c => Val.str [c]).length ≤ LIM := by rw [List.length_map, lim_val]; omega
        have key : ev ⟨call pg n, pg.repr, pg.eqx, pg.sub⟩ (.bil .all (.comp [1] (.one 1) (.seq (.var 0)) .nil (.chain .le .le (.cst (.str [97])) (.var 1) (.cst (.str [122]))))) [some (.str s), none] M = .ok (.bl (letterB s)) M := by
          rw [all_pure (fun x => decide (97 ≤ sgn x ∧ sgn x ≤ 122)) (v := .str s) (xs := s.map fun c => Val.str [c]) (by simp) rfl hl]
          · rw [all_signs s fun c => decide (97 ≤ c ∧ c ≤ 122)]; rfl
          · intro x hx
            obtain ⟨c, _, rfl⟩ := List.mem_map.mp hx
            simp only [s_chain, s_cst, s_var, wiped, List.set, List.getElem?_cons_zero, List.getElem?_cons_succ, Res.bind_ok, cm_le_11, cm_in_sign, le_sign, ofOpt_some, sgn]
            by_cases a : 97 ≤ c
            · simp [a, le_sign]
            · simp [a]
        simp [-s_bil, b4, start, isOf_str h, isS, truth, bi1, lenV, h1, h2, key, nameB0]
      · simp [b4, start, isOf_str h, isS, truth, bi1, lenV, h1, h2, nameB0]
    · simp [b4, start, isOf_str h, isS, truth, bi1, lenV, h1, nameB0]
  | _ => simp [b4, start, isOf_str h, isS, truth, nameB0]
end K3
end K3KAS

section K3KBS
set_option Elab.async false
set_option linter.all false
set_option maxRecDepth 100000
set_option maxHeartbeats 0
namespace K3
open Mi
/-- what is asked of a value: it and its items stand in the store -/
def wfT (M : Store) (x : Val) : Prop := inM M x ∧ ∀ xs, x = .tup xs → ∀ y ∈ xs, inM M y
def stampB (x : Val) : Bool := match x with
  | .tup [a, b, c] => (fromB a 1 && cliB b && fromB c 1) || (isW a && isW b && isW c && eqVs [a, b, c] [.int 0, .int 0, .int 0])
  | _ => false
theorem three {α : Type} {xs : List α} (h : (xs.length : Int) = 3) : ∃ a b c, xs = [a, b, c] := by
  have : xs.length = 3 := by omega
  match xs, this with
  | [a, b, c], _ => exact ⟨a, b, c, rfl⟩
theorem stampB_len {xs : List Val} (h : ¬ (xs.length : Int) = 3) : stampB (.tup xs) = false := by
  match xs, h with
  | [a, b, c], h => exact absurd rfl h
  | [], _ => rfl
  | [_], _ => rfl
  | [_, _], _ => rfl
  | _ :: _ :: _ :: _ :: _, _ => rfl
theorem isW_int {x : Val} (h : isW x = true) : ∃ i, x = .int i := by
  cases x <;> first | exact ⟨_, rfl⟩ | cases h
theorem c_stamp (n : Nat) (x : Val) (M : Store) (h : wfT M x) : call pg (n + 4) 6 [x] M = .ok (.bl (stampB x)) M := by
  rw [call_s pg (n + 3) 6 _ M ⟨1, 4, b6⟩ rfl rfl]
  cases x with
  | tup xs =>
    by_cases hl : (xs.length : Int) = 3
    · obtain ⟨a, b, c, rfl⟩ := three hl
      have ha : inM M a := h.2 _ rfl a (by simp)
      have hb : inM M b := h.2 _ rfl b (by simp)
      have hc : inM M c := h.2 _ rfl c (by simp)
      have k1 := c_from (n + 1) a 1 M ha
      have k2 := c_client n b M hb
      have k3 := c_from (n + 1) c 1 M hc
      have k4 := c_whole (n + 2) a M ha
      have k5 := c_whole (n + 2) b M hb
      have k6 := c_whole (n + 2) c M hc
      have e3 : (3 : Int) = 3 := rfl
      cases h0 : (fromB a 1 && (cliB b && fromB c 1)) with
      | true =>
        obtain ⟨h1, h2⟩ := and2 h0
        obtain ⟨h2, h3⟩ := and2 h2
        simp [b6, start, isOf_tuple h.1, isT, truth, bi1, lenV, noRef, put, k1, k2, k3, h1, h2, h3, stampB, eqV, depth]
      | false =>
        have rest : ∀ σ : St, σ = [some (.tup [a, b, c]), some a, some b, some c] → ex ⟨call pg (n + 3), pg.repr, pg.eqx, pg.sub⟩ (.ret (.and (.call 0 (.cons (.var 1) .nil)) (.and (.call 0 (.cons (.var 2) .nil)) (.and (.call 0 (.cons (.var 3) .nil)) (.cmp .eq (.var 0) (.cst (.tup [(.int 0), (.int 0), (.int 0)]))))))) σ M = .ret (.bl (isW a && isW b && isW c && eqVs [a, b, c] [.int 0, .int 0, .int 0])) M := by
          intro σ e
          subst e
          cases wa : isW a with
          | false => simp [k4, wa, truth]
          | true =>
            cases wb : isW b with
            | false => simp [k4, k5, wa, wb, truth]
            | true =>
              cases wc : isW c with
              | false => simp [k4, k5, k6, wa, wb, wc, truth]
              | true =>
                obtain ⟨i, rfl⟩ := isW_int wa
                obtain ⟨j, rfl⟩ := isW_int wb
                obtain ⟨k, rfl⟩ := isW_int wc
                simp [k4, k5, k6, isW, truth, noRef, noRefs, depth, depths, eqV, cm_eq_tt]
        have fin : stampB (.tup [a, b, c]) = (isW a && isW b && isW c && eqVs [a, b, c] [.int 0, .int 0, .int 0]) := by
          unfold stampB
          rw [← Bool.and_assoc] at h0
          simp only [h0, Bool.false_or]
        rw [fin]
        have r := rest _ rfl
        cases h1 : fromB a 1 with
        | false => simp [-x_ret, b6, start, isOf_tuple h.1, isT, truth, bi1, lenV, noRef, put, k1, h1, eqV, depth, r]
        | true =>
          cases h2 : cliB b with
          | false => simp [-x_ret, b6, start, isOf_tuple h.1, isT, truth, bi1, lenV, noRef, put, k1, k2, h1, h2, eqV, depth, r]
          | true =>
            have h3 : fromB c 1 = false := by simpa [h1, h2] using h0
            simp [-x_ret, b6, start, isOf_tuple h.1, isT, truth, bi1, lenV, noRef, put, k1, k2, k3, h1, h2, h3, eqV, depth, r]
    · have hl2 : ((xs.length : Int) == 3) = false := by simpa using hl
      simp [b6, start, isOf_tuple h.1, isT, truth, bi1, lenV, noRef, eqV, depth, stampB_len hl, hl2]
  | _ => simp [b6, start, isOf_tuple h.1, isT, truth, stampB]
end K3
end K3KBS

section K3KCS
set_option Elab.async false
set_option linter.all false
set_option maxRecDepth 100000
set_option maxHeartbeats 0
namespace K3
open Mi
def one (f : Val → Bool) : List Val → Bool
  | [a] => f a
  | _ => false
def two (f : Val → Val → Bool) : List Val → Bool
  | [a, b] => f a b
  | _ => false
def thr (f : Val → Val → Val → Bool) : List Val → Bool
  | [a, b, c] => f a b c
  | _ => false
theorem one_no {f : Val → Bool} {r : List Val} (h : ((r.length : Int) == 1) = false) : one f r = false := by
  match r, h with
  | [], _ => rfl
  | _ :: _ :: _, _ => rfl
theorem one_yes {r : List Val} (h : ((r.length : Int) == 1) = true) : ∃ a, r = [a] := by
  have : r.length = 1 := by simp at h; omega
  match r, this with
  | [a], _ => exact ⟨a, rfl⟩
theorem two_no {f : Val → Val → Bool} {r : List Val} (h : ((r.length : Int) == 2) = false) : two f r = false := by
  match r, h with
  | [], _ => rfl
  | [_], _ => rfl
  | _ :: _ :: _ :: _, _ => rfl
theorem two_yes {r : List Val} (h : ((r.length : Int) == 2) = true) : ∃ a b, r = [a, b] := by
  have : r.length = 2 := by simp at h; omega
  match r, this with
  | [a, b], _ => exact ⟨a, b, rfl⟩
theorem thr_no {f : Val → Val → Val → Bool} {r : List Val} (h : ((r.length : Int) == 3) = false) : thr f r = false := by
  match r, h with
  | [], _ => rfl
  | [_], _ => rfl
  | [_, _], _ => rfl
  | _ :: _ :: _ :: _ :: _, _ => rfl
theorem thr_yes {r : List Val} (h : ((r.length : Int) == 3) = true) : ∃ a b c, r = [a, b, c] := by
  have : r.length = 3 := by simp at h; omega
  match r, this with
  | [a, b, c], _ => exact ⟨a, b, c, rfl⟩
theorem cut_tail (x : Val) (r : List Val) : cut (x :: r) (some 1) none = r := by
  have e : (min 1 (r.length + 1)) = 1 := by omega
  simp [cut, bound, e]
theorem first (x : Val) (r : List Val) : itemAt (x :: r) 0 = some x := by
  simp [itemAt, place]
def wordedB (x : Val) : Bool := match x with
  | .tup (.str _ :: _) => true
  | _ => false
theorem c_worded (n : Nat) (x : Val) (M : Store) (h : wfT M x) : call pg (n + 1) 7 [x] M = .ok (.bl (wordedB x)) M := by
  rw [call_s pg n 7 _ M ⟨1, 1, b7⟩ rfl rfl]
  cases x with
  | tup xs =>
    cases xs with
    | nil => simp [b7, start, isOf_tuple h.1, isT, truth, bi1, lenV, wordedB]
    | cons y r =>
      have hy : inM M y := h.2 _ rfl y (by simp)
      have e : decide (0 < ((y :: r).length : Int)) = true := decide_eq_true (by simp)
      simp only [List.length_cons] at e
      simp [b7, start, isOf_tuple h.1, isT, truth, bi1, lenV, ixV, first, isOf_str hy, e]
      have e2 : (0 : Int) < r.length + 1 := by omega
      cases y <;> simp [wordedB, isS, e2]
  | _ => simp [b7, start, isOf_tuple h.1, isT, truth, wordedB]
def spliceB (a b c : Val) : Bool := fromB a 0 && fromB b 0 && textB c
theorem c_splice (n : Nat) (a b c : Val) (M : Store) (ha : inM M a) (hb : inM M b) (hc : inM M c) : call pg (n + 3) 8 [a, b, c] M = .ok (.bl (spliceB a b c)) M := by
  rw [call_s pg (n + 2) 8 _ M ⟨3, 3, b8⟩ rfl rfl]
  simp [b8, start, c_from n a 0 M ha, c_from n b 0 M hb, c_text n c M hc, truth]
  cases h1 : fromB a 0 <;> cases h2 : fromB b 0 <;> simp [h1, h2, spliceB]
def wPut : List Nat := [112, 117, 116]
def wSplice : List Nat := [115, 112, 108, 105, 99, 101]
def wRemove : List Nat := [114, 101, 109, 111, 118, 101]
def wTake : List Nat := [116, 97, 107, 101]
def wAdopt : List Nat := [97, 100, 111, 112, 116]
def wDrop : List Nat := [100, 114, 111, 112]
def textEditB (x : Val) : Bool := match x with
  | .tup (.str w :: r) => if w == wPut then one textB r else if w == wSplice then thr spliceB r else w == wRemove && ((r.length : Int) == 0)
  | _ => false
theorem c_textEdit (n : Nat) (x : Val) (M : Store) (h : wfT M x) : call pg (n + 4) 9 [x] M = .ok (.bl (textEditB x)) M := by
  rw [call_s pg (n + 3) 9 _ M ⟨1, 3, b9⟩ rfl rfl]
  have k := c_worded (n + 2) x M h
  cases hw : wordedB x with
  | false =>
    have e : textEditB x = false := by
      unfold wordedB at hw
      unfold textEditB
      split at hw
      · cases hw
      · rfl
    simp [b9, start, k, hw, truth, e]
  | true =>
    obtain ⟨w, r, rfl⟩ : ∃ w r, x = .tup (.str w :: r) := by
      unfold wordedB at hw
      split at hw
      · exact ⟨_, _, rfl⟩
      · cases hw
    have hr : ∀ y ∈ r, inM M y := fun y hy => h.2 _ rfl y (List.mem_cons_of_mem _ hy)
    unfold textEditB
    simp only
    cases h1 : w == wPut with
    | true =>
      have e1 : w = [112, 117, 116] := by simpa [wPut] using h1
      subst e1
      cases h2 : ((r.length : Int) == 1) with
      | false =>
        rw [if_pos rfl, one_no h2]
        simp [b9, start, k, hw, truth, ixV, first, slV, cut_tail, noRef, depth, eqV, h2, bi1, lenV]
      | true =>
        obtain ⟨a, rfl⟩ := one_yes h2
        rw [if_pos rfl]
        simp [b9, start, k, hw, truth, ixV, first, slV, cut_tail, noRef, depth, eqV, bi1, lenV, one, c_text (n + 1) a M (hr a (by simp))]
    | false =>
      have e1 : ¬ w = [112, 117, 116] := by simpa [wPut] using h1
      rw [if_neg (by simp)]
      cases h3 : w == wSplice with
      | true =>
        have e2 : w = [115, 112, 108, 105, 99, 101] := by simpa [wSplice] using h3
        subst e2
        rw [if_pos rfl]
        cases h2 : ((r.length : Int) == 3) with
        | false =>
          rw [thr_no h2]
          simp [b9, start, k, hw, truth, ixV, first, slV, cut_tail, noRef, depth, eqV, h2, bi1, lenV]
        | true =>
          obtain ⟨a, b, c, rfl⟩ := thr_yes h2
          have i1 : itemAt [a, b, c] 1 = some b := rfl
          have i2 : itemAt [a, b, c] 2 = some c := rfl
          simp [b9, start, k, hw, truth, ixV, first, slV, cut_tail, noRef, depth, eqV, bi1, lenV, thr, i1, i2, c_splice n a b c M (hr a (by simp)) (hr b (by simp)) (hr c (by simp))]
      | false =>
        have e2 : ¬ w = [115, 112, 108, 105, 99, 101] := by simpa [wSplice] using h3
        rw [if_neg (by simp)]
        by_cases e3 : w = [114, 101, 109, 111, 118, 101]
        · subst e3
          simp [b9, start, k, hw, truth, ixV, first, slV, cut_tail, noRef, depth, eqV, bi1, lenV, wRemove]
        · simp [b9, start, k, hw, truth, ixV, first, slV, cut_tail, noRef, depth, eqV, bi1, lenV, wRemove, e1, e2, e3]
end K3
end K3KCS

section K3KDS
set_option Elab.async false
set_option linter.all false
set_option maxRecDepth 100000
set_option maxHeartbeats 0
namespace K3
open Mi
def editB (x : Val) : Bool := textEditB x || (match x with
  | .tup (.str w :: r) => if w == wTake then one nameB0 r else if w == wAdopt || w == wDrop then two (fun a b => cliB a && fromB b 1) r else false
  | _ => false)
theorem c_edit (n : Nat) (x : Val) (M : Store) (h : wfT M x) : call pg (n + 5) 10 [x] M = .ok (.bl (editB x)) M := by
  rw [call_s pg (n + 4) 10 _ M ⟨1, 3, b10⟩ rfl rfl]
  have k0 := c_textEdit n x M h
  have k := c_worded (n + 3) x M h
  cases ht : textEditB x with
  | true => simp [b10, start, k0, ht, truth, editB]
  | false =>
    cases hw : wordedB x with
    | false =>
      have e : editB x = false := by
        unfold wordedB at hw
        unfold editB
        rw [ht, Bool.false_or]
        cases x with
        | tup xs =>
          cases xs with
          | nil => rfl
          | cons y r => cases y <;> first | rfl | cases hw
        | _ => rfl
      simp [b10, start, k0, ht, k, hw, truth, e]
    | true =>
      obtain ⟨w, r, rfl⟩ : ∃ w r, x = .tup (.str w :: r) := by
        unfold wordedB at hw
        split at hw
        · exact ⟨_, _, rfl⟩
        · cases hw
      have hr : ∀ y ∈ r, inM M y := fun y hy => h.2 _ rfl y (List.mem_cons_of_mem _ hy)
      unfold editB
      rw [ht, Bool.false_or]
      simp only
      cases h1 : w == wTake with
      | true =>
        have e1 : w = [116, 97, 107, 101] := by simpa [wTake] using h1
        subst e1
        cases h2 : ((r.length : Int) == 1) with
        | false =>
          rw [if_pos rfl, one_no h2]
          simp [b10, start, k0, ht, k, hw, truth, ixV, first, slV, cut_tail, noRef, depth, eqV, h2, bi1, lenV]
        | true =>
          obtain ⟨a, rfl⟩ := one_yes h2
          rw [if_pos rfl]
          simp [b10, start, k0, ht, k, hw, truth, ixV, first, slV, cut_tail, noRef, depth, eqV, bi1, lenV, one, c_name (n + 3) a M (hr a (by simp))]
      | false =>
        have e1 : ¬ w = [116, 97, 107, 101] := by simpa [wTake] using h1
        rw [if_neg (by simp)]
        cases h3 : (w == wAdopt || w == wDrop) with
        | true =>
          rw [if_pos rfl]
          have e2 : w = [97, 100, 111, 112, 116] ∨ w = [100, 114, 111, 112] := by simpa [wAdopt, wDrop] using h3
          cases h2 : ((r.length : Int) == 2) with
          | false =>
            rw [two_no h2]
            rcases e2 with e2 | e2 <;> subst e2 <;> simp [b10, start, k0, ht, k, hw, truth, ixV, first, slV, cut_tail, noRef, depth, eqV, h2, bi1, lenV]
          | true =>
            obtain ⟨a, b, rfl⟩ := two_yes h2
            have i1 : itemAt [a, b] 1 = some b := rfl
            have k2 := c_client (n + 1) a M (hr a (by simp))
            have k3 := c_from (n + 2) b 1 M (hr b (by simp))
            cases h4 : cliB a <;> rcases e2 with e2 | e2 <;> subst e2 <;> simp [b10, start, k0, ht, k, hw, truth, ixV, first, slV, cut_tail, noRef, depth, eqV, bi1, lenV, two, i1, k2, k3, h4]
        | false =>
          have e2 : ¬ w = [97, 100, 111, 112, 116] ∧ ¬ w = [100, 114, 111, 112] := by simpa [wAdopt, wDrop] using h3
          rw [if_neg (by simp)]
          simp [b10, start, k0, ht, k, hw, truth, ixV, first, slV, cut_tail, noRef, depth, eqV, bi1, lenV, e1, e2.1, e2.2]
/-! ### the law's own judges -/
theorem l_count (n : Nat) (x : Val) (M : Store) (h : inM M x) : call pg (n + 1) 27 [x] M = .ok (.bl (fromB x 0)) M := by
  rw [call_s pg n 27 _ M ⟨1, 1, b27⟩ rfl rfl]
  simp [b27, start, isOf_int h, isOf_bool h, truth]
  cases x <;> simp [isW, isB, fromB]
def longB (x : Val) (k : Int) : Bool := match x with
  | .tup xs => (xs.length : Int) == k
  | _ => false
theorem l_long (n : Nat) (x : Val) (k : Int) (M : Store) (h : inM M x) : call pg (n + 1) 28 [x, .int k] M = .ok (.bl (longB x k)) M := by
  rw [call_s pg n 28 _ M ⟨2, 2, b28⟩ rfl rfl]
  simp [b28, start, isOf_tuple h, truth]
  cases x <;> simp [isT, longB, bi1, lenV, noRef, depth, eqV]
theorem mem_abc (c : Nat) : (decide (c ∈ [97, 98, 99, 100, 101, 102, 103, 104, 105, 106, 107, 108, 109, 110, 111, 112, 113, 114, 115, 116, 117, 118, 119, 120, 121, 122])) = decide (97 ≤ c ∧ c ≤ 122) := by
  by_cases h : 97 ≤ c ∧ c ≤ 122
  · rw [decide_eq_true h]
    obtain ⟨h1, h2⟩ := h
    have : ∀ c, c < 123 → 97 ≤ c → decide (c ∈ [97, 98, 99, 100, 101, 102, 103, 104, 105, 106, 107, 108, 109, 110, 111, 112, 113, 114, 115, 116, 117, 118, 119, 120, 121, 122]) = true := by decide +kernel
    exact this c (by omega) h1
  · rw [decide_eq_false h]
    refine decide_eq_false fun z => h ?_
    simp only [List.mem_cons, List.not_mem_nil, or_false] at z
    omega
theorem l_name (n : Nat) (x : Val) (M : Store) (h : inM M x) : call pg (n + 1) 29 [x] M = .ok (.bl (nameB0 x)) M := by
  rw [call_s pg n 29 _ M ⟨1, 2, b29⟩ rfl rfl]
  cases x with
  | str s =>
    by_cases h1 : (s.length : Int) < 1
    · have h1' : ¬ 1 ≤ (s.length : Int) := by omega
      simp [b29, start, isOf_str h, isS, truth, bi1, lenV, h1, h1', nameB0]
    · by_cases h2 : (8 : Int) < s.length
      · have h2' : ¬ (s.length : Int) ≤ 8 := by omega
        simp [b29, start, isOf_str h, isS, truth, bi1, lenV, h1, h2, h2', nameB0]
      · have h1' : 1 ≤ (s.length : Int) := by omega
        have h2' : (s.length : Int) ≤ 8 := by omega
        have hl : (s.map fun c => Val.str [c]).length ≤ LIM := by rw [List.length_map, lim_val]; omega
        have key : ev ⟨call pg n, pg.repr, pg.eqx, pg.sub⟩ (.bil .all (.comp [1] (.one 1) (.seq (.var 0)) .nil (.cmp .inn (.var 1) (.cst (.str [97, 98, 99, 100, 101, 102, 103, 104, 105, 106, 107, 108, 109, 110, 111, 112, 113, 114, 115, 116, 117, 118, 119, 120, 121, 122]))))) [some (.str s), none] M = .ok (.bl (letterB s)) M := by
          rw [all_pure (fun x => decide (97 ≤ sgn x ∧ sgn x ≤ 122)) (v := .str s) (xs := s.map fun c => Val.str [c]) (by simp) rfl hl]
          · rw [all_signs s fun c => decide (97 ≤ c ∧ c ≤ 122)]; rfl
          · intro x hx
            obtain ⟨c, _, rfl⟩ := List.mem_map.mp hx
            simp only [s_cmp, s_cst, s_var, wiped, List.set, List.getElem?_cons_zero, List.getElem?_cons_succ, Res.bind_ok, cm_le_11, cm_in_sign, mem_abc, ofOpt_some, Option.map_some, sgn]
            congr 2
        simp [-s_bil, b29, start, isOf_str h, isS, truth, bi1, lenV, h1, h2, h1', h2', key, nameB0]
  | _ => simp [b29, start, isOf_str h, isS, truth, nameB0]
theorem l_text (n : Nat) (x : Val) (M : Store) (h : inM M x) : call pg (n + 1) 30 [x] M = .ok (.bl (textB x)) M := by
  rw [call_s pg n 30 _ M ⟨1, 2, b30⟩ rfl rfl]
  cases x with
  | str s =>
    by_cases h1 : (s.length : Int) ≤ 96
    · have hl : (s.map fun c => Val.str [c]).length ≤ LIM := by rw [List.length_map, lim_val]; omega
      have key : ev ⟨call pg n, pg.repr, pg.eqx, pg.sub⟩ (.bil .all (.comp [1] (.one 1) (.seq (.var 0)) .nil (.and (.cmp .le (.cst (.str [32])) (.var 1)) (.cmp .le (.var 1) (.cst (.str [126])))))) [some (.str s), none] M = .ok (.bl (plainB s)) M := by
        rw [all_pure (fun x => decide (32 ≤ sgn x ∧ sgn x ≤ 126)) (v := .str s) (xs := s.map fun c => Val.str [c]) (by simp) rfl hl]
        · rw [all_signs s fun c => decide (32 ≤ c ∧ c ≤ 126)]; rfl
        · intro x hx
          obtain ⟨c, _, rfl⟩ := List.mem_map.mp hx
          simp only [s_and, s_cmp, s_cst, s_var, wiped, List.set, List.getElem?_cons_zero, List.getElem?_cons_succ, Res.bind_ok, cm_le_11, cm_in_sign, le_sign, ofOpt_some, Option.map_some, sgn, truth]
          by_cases a : 32 ≤ c
          · simp [a]
          · simp [a]
      simp [-s_bil, b30, start, isOf_str h, isS, truth, bi1, lenV, h1, key, textB]
    · simp [b30, start, isOf_str h, isS, truth, bi1, lenV, h1, textB]
  | _ => simp [b30, start, isOf_str h, isS, truth, textB]
theorem l_client (n : Nat) (x : Val) (M : Store) (h : inM M x) : call pg (n + 2) 31 [x] M = .ok (.bl (cliB x)) M := by
  rw [call_s pg (n + 1) 31 _ M ⟨1, 1, b31⟩ rfl rfl]
  simp [b31, start, l_count n x M h, truth]
  cases x with
  | int i =>
    by_cases h1 : 0 ≤ i
    · by_cases h2 : 1 ≤ i <;> simp [fromB, cliB, h1, h2, truth]
    · have h2 : ¬ 1 ≤ i := by omega
      simp [fromB, cliB, h1, h2, truth]
  | _ => simp [fromB, cliB]
end K3
end K3KDS

section K3KE1S
set_option Elab.async false
set_option linter.all false
set_option maxRecDepth 100000
set_option maxHeartbeats 0
namespace K3
open Mi
def pairB (x : Val) : Bool := match x with
  | .tup [a, b] => cliB a && fromB b 1
  | _ => false
theorem pairB_len {xs : List Val} (h : ((xs.length : Int) == 2) = false) : pairB (.tup xs) = false := by
  match xs, h with
  | [], _ => rfl
  | [_], _ => rfl
  | _ :: _ :: _ :: _, _ => rfl
theorem l_pair (n : Nat) (x : Val) (M : Store) (h : wfT M x) : call pg (n + 3) 32 [x] M = .ok (.bl (pairB x)) M := by
  rw [call_s pg (n + 2) 32 _ M ⟨1, 1, b32⟩ rfl rfl]
  have k := l_long (n + 1) x 2 M h.1
  cases x with
  | tup xs =>
    cases hl : ((xs.length : Int) == 2) with
    | false => simp [b32, start, k, longB, hl, truth, pairB_len hl]
    | true =>
      obtain ⟨a, b, rfl⟩ := two_yes hl
      have ha : inM M a := h.2 _ rfl a (by simp)
      have hb : inM M b := h.2 _ rfl b (by simp)
      have i1 : itemAt [a, b] 1 = some b := rfl
      have k1 := l_client n a M ha
      have k2 := l_count (n + 1) b M hb
      cases h1 : cliB a with
      | false => simp [b32, start, k, longB, truth, ixV, first, k1, h1, pairB]
      | true =>
        cases b with
        | int j =>
          by_cases h2 : 0 ≤ j
          · simp [b32, start, k, longB, truth, ixV, first, i1, k1, k2, h1, pairB, fromB, h2]
          · have h3 : ¬ 1 ≤ j := by omega
            simp [b32, start, k, longB, truth, ixV, first, i1, k1, k2, h1, pairB, fromB, h2, h3]
        | _ => simp [b32, start, k, longB, truth, ixV, first, i1, k1, k2, h1, pairB, fromB]
  | _ => simp [b32, start, k, longB, truth, pairB]
theorem cli_from {b : Val} (h : cliB b = true) : fromB b 0 = true := by
  cases b <;> simp [cliB, fromB] at h ⊢
  omega
theorem one_from {b : Val} (h : fromB b 1 = true) : fromB b 0 = true := by
  cases b <;> simp [fromB] at h ⊢
  omega
theorem fromB_int {x : Val} {l : Int} (h : fromB x l = true) : ∃ i, x = .int i ∧ l ≤ i := by
  cases x with
  | int i => exact ⟨i, rfl, by simpa [fromB] using h⟩
  | _ => cases h
theorem l_stamp (n : Nat) (x : Val) (M : Store) (h : wfT M x) : call pg (n + 4) 33 [x] M = .ok (.bl (stampB x)) M := by
  rw [call_s pg (n + 3) 33 _ M ⟨1, 2, b33⟩ rfl rfl]
  have k := l_long (n + 2) x 3 M h.1
  cases x with
  | tup xs =>
    cases hl : ((xs.length : Int) == 3) with
    | false =>
      have hl2 : ¬ (xs.length : Int) = 3 := by simpa using hl
      simp [b33, start, k, longB, hl, truth, stampB_len hl2]
    | true =>
      obtain ⟨a, b, c, rfl⟩ := thr_yes hl
      have ha : inM M a := h.2 _ rfl a (by simp)
      have hb : inM M b := h.2 _ rfl b (by simp)
      have hc : inM M c := h.2 _ rfl c (by simp)
      have key : ev ⟨call pg (n + 3), pg.repr, pg.eqx, pg.sub⟩ (.bil .all (.comp [1] (.one 1) (.seq (.var 0)) .nil (.call 27 (.cons (.var 1) .nil)))) [some (.tup [a, b, c]), none] M = .ok (.bl (fromB a 0 && (fromB b 0 && fromB c 0))) M := by
        rw [all_pure (fun x => fromB x 0) (v := .tup [a, b, c]) (xs := [a, b, c]) (by simp) rfl (by rw [lim_val]; simp)]
        · simp
        · intro x hx
          have hin : inM M x := h.2 _ rfl x hx
          simp [wiped, l_count (n + 2) x M hin]
      cases h0 : (fromB a 0 && (fromB b 0 && fromB c 0)) with
      | false =>
        have e : stampB (.tup [a, b, c]) = false := by
          cases hs : stampB (.tup [a, b, c]) with
          | false => rfl
          | true =>
            unfold stampB at hs
            rcases Bool.or_eq_true _ _ ▸ hs with hs | hs
            · obtain ⟨hs, h3⟩ := and2 hs
              obtain ⟨h1, h2⟩ := and2 hs
              rw [one_from h1, cli_from h2, one_from h3] at h0
              cases h0
            · obtain ⟨hs, h4⟩ := and2 hs
              obtain ⟨hs, h3⟩ := and2 hs
              obtain ⟨h1, h2⟩ := and2 hs
              obtain ⟨i, rfl⟩ := isW_int h1
              obtain ⟨j, rfl⟩ := isW_int h2
              obtain ⟨l, rfl⟩ := isW_int h3
              simp [eqVs, eqV] at h4
              obtain ⟨rfl, rfl, rfl⟩ := h4
              simp [fromB] at h0
        simp [-s_bil, b33, start, k, longB, truth, key, h0, e]
      | true =>
        obtain ⟨h1, h2⟩ := and2 h0
        obtain ⟨h2, h3⟩ := and2 h2
        obtain ⟨i, rfl, hi⟩ := fromB_int h1
        obtain ⟨j, rfl, hj⟩ := fromB_int h2
        obtain ⟨l, rfl, hl3⟩ := fromB_int h3
        have i1 : itemAt [Val.int i, .int j, .int l] 1 = some (.int j) := rfl
        have i2 : itemAt [Val.int i, .int j, .int l] 2 = some (.int l) := rfl
        have wp : wfT M (.tup [.int j, .int l]) := ⟨True.intro, fun xs e y hy => by
          cases e
          rcases List.mem_cons.mp hy with rfl | hy
          · exact True.intro
          · rw [List.mem_singleton.mp hy]; exact True.intro⟩
        have kp := l_pair n (.tup [.int j, .int l]) M wp
        by_cases z1 : i = 0
        · subst z1
          by_cases z2 : j = 0
          · subst z2
            by_cases z3 : l = 0
            · subst z3
              simp [-s_bil, b33, start, k, longB, truth, key, fromB, ixV, first, i1, i2, noRef, depth, eqV, stampB, isW, eqVs, cliB]
            · simp [-s_bil, b33, start, k, longB, truth, key, fromB, ixV, first, i1, i2, noRef, depth, eqV, stampB, isW, eqVs, cliB, z3, hl3]
          · simp [-s_bil, b33, start, k, longB, truth, key, fromB, ixV, first, i1, i2, noRef, depth, eqV, stampB, isW, eqVs, cliB, z2, hj, hl3]
        · have hi1 : 1 ≤ i := by omega
          simp [-s_bil, b33, start, k, longB, truth, key, fromB, ixV, first, i1, i2, noRef, depth, eqV, stampB, isW, eqVs, cliB, z1, hi, hj, hl3, hi1, slV, cut_tail, kp, pairB]
  | _ => simp [b33, start, k, longB, truth, stampB]
end K3
end K3KE1S

section K3KFS
set_option Elab.async false
set_option linter.all false
set_option maxRecDepth 100000
set_option maxHeartbeats 0
namespace K3
open Mi
theorem pair_two (r : List Val) : pairB (.tup r) = two (fun a b => cliB a && fromB b 1) r := by
  match r with
  | [] => rfl
  | [_] => rfl
  | [_, _] => rfl
  | _ :: _ :: _ :: _ => rfl
set_option maxHeartbeats 0 in
theorem l_edit (n : Nat) (x : Val) (M : Store) (h : wfT M x) : call pg (n + 4) 34 [x] M = .ok (.bl (editB x)) M := by
  rw [call_s pg (n + 3) 34 _ M ⟨1, 3, b34⟩ rfl rfl]
  cases x with
  | tup xs =>
    cases xs with
    | nil => simp [b34, start, isOf_tuple h.1, isT, truth, bi1, lenV, noRef, depth, eqV, editB, textEditB]
    | cons y r =>
      have hy : inM M y := h.2 _ rfl y (by simp)
      have hr : ∀ z ∈ r, inM M z := fun z hz => h.2 _ rfl z (List.mem_cons_of_mem _ hz)
      have e0 : ((r.length : Int) + 1 == 0) = false := by
        rw [beq_eq_false_iff_ne]
        omega
      cases y with
      | str w =>
        have ke : editB (.tup (.str w :: r)) = ((if w == wPut then one textB r else if w == wSplice then thr spliceB r else w == wRemove && ((r.length : Int) == 0)) || (if w == wTake then one nameB0 r else if w == wAdopt || w == wDrop then two (fun a b => cliB a && fromB b 1) r else false)) := rfl
        rw [ke]
        have base : [isOf .tuple (.tup (.str w :: r)) M, isOf .str (.str w) M] = [some true, some true] := by rw [isOf_tuple h.1, isOf_str hy]; rfl
        by_cases e1 : w = [112, 117, 116]
        · subst e1
          cases h2 : ((r.length : Int) == 1) with
          | false =>
            rw [one_no h2]
            simp [b34, start, isOf_tuple h.1, isOf_str hy, isT, isS, truth, bi1, lenV, ixV, first, slV, cut_tail, noRef, depth, eqV, e0, h2, wPut, wTake, wAdopt, wDrop]
          | true =>
            obtain ⟨a, rfl⟩ := one_yes h2
            simp [b34, start, isOf_tuple h.1, isOf_str hy, isT, isS, truth, bi1, lenV, ixV, first, slV, cut_tail, noRef, depth, eqV, wPut, wTake, wAdopt, wDrop, one, l_text (n + 2) a M (hr a (by simp))]
        · by_cases e2 : w = [115, 112, 108, 105, 99, 101]
          · subst e2
            cases h2 : ((r.length : Int) == 3) with
            | false =>
              rw [thr_no h2]
              simp [b34, start, isOf_tuple h.1, isOf_str hy, isT, isS, truth, bi1, lenV, ixV, first, slV, cut_tail, noRef, depth, eqV, e0, h2, wPut, wSplice, wTake, wAdopt, wDrop]
            | true =>
              obtain ⟨a, b, c, rfl⟩ := thr_yes h2
              have i1 : itemAt [a, b, c] 1 = some b := rfl
              have i2 : itemAt [a, b, c] 2 = some c := rfl
              have k1 := l_count (n + 2) a M (hr a (by simp))
              have k2 := l_count (n + 2) b M (hr b (by simp))
              have k3 := l_text (n + 2) c M (hr c (by simp))
              cases h4 : fromB a 0 <;> cases h5 : fromB b 0 <;> simp [b34, start, isOf_tuple h.1, isOf_str hy, isT, isS, truth, bi1, lenV, ixV, first, slV, cut_tail, noRef, depth, eqV, wPut, wSplice, wTake, wAdopt, wDrop, thr, i1, i2, k1, k2, k3, h4, h5, spliceB]
          · by_cases e3 : w = [116, 97, 107, 101]
            · subst e3
              cases h2 : ((r.length : Int) == 1) with
              | false =>
                rw [one_no (f := nameB0) h2]
                simp [b34, start, isOf_tuple h.1, isOf_str hy, isT, isS, truth, bi1, lenV, ixV, first, slV, cut_tail, noRef, depth, eqV, e0, h2, wPut, wSplice, wRemove, wTake, wAdopt, wDrop]
              | true =>
                obtain ⟨a, rfl⟩ := one_yes h2
                simp [b34, start, isOf_tuple h.1, isOf_str hy, isT, isS, truth, bi1, lenV, ixV, first, slV, cut_tail, noRef, depth, eqV, wPut, wSplice, wRemove, wTake, wAdopt, wDrop, one, l_name (n + 2) a M (hr a (by simp))]
            · by_cases e4 : w = [97, 100, 111, 112, 116] ∨ w = [100, 114, 111, 112]
              · have wp : wfT M (.tup r) := ⟨True.intro, fun xs e y hy => by cases e; exact hr y hy⟩
                have kp := l_pair n (.tup r) M wp
                rw [pair_two] at kp
                rcases e4 with e4 | e4 <;> subst e4 <;> simp [b34, start, isOf_tuple h.1, isOf_str hy, isT, isS, truth, bi1, lenV, ixV, first, slV, cut_tail, noRef, depth, eqV, e0, wPut, wSplice, wRemove, wTake, wAdopt, wDrop, kp]
              · obtain ⟨e5, e6⟩ := not_or.mp e4
                by_cases e7 : w = [114, 101, 109, 111, 118, 101]
                · subst e7
                  simp [b34, start, isOf_tuple h.1, isOf_str hy, isT, isS, truth, bi1, lenV, ixV, first, slV, cut_tail, noRef, depth, eqV, e0, wPut, wSplice, wRemove, wTake, wAdopt, wDrop]
                · simp [b34, start, isOf_tuple h.1, isOf_str hy, isT, isS, truth, bi1, lenV, ixV, first, slV, cut_tail, noRef, depth, eqV, e0, wPut, wSplice, wRemove, wTake, wAdopt, wDrop, e1, e2, e3, e5, e6, e7]
      | _ => simp [b34, start, isOf_tuple h.1, isOf_str hy, isT, isS, truth, bi1, lenV, ixV, first, noRef, depth, eqV, e0, editB, textEditB]
  | _ => simp [b34, start, isOf_tuple h.1, isT, truth, editB, textEditB]
end K3
end K3KFS

section K3TAS
set_option Elab.async false
set_option linter.all false
set_option maxRecDepth 100000
namespace Mi
/-- all([g(x, q) for x, q in zip(a, b)]), by values -/
theorem all_zipB {cf : Cf} {σ : St} {M M1 M2 : Store} {i j : Nat} {a b e : E} {zs : List Val} (p : Val → Bool) (hs : evS cf (.zip a b) σ M = .ok (zs, []) M2) (hij : i ≠ j) (hi : i < σ.length) (hj : j < σ.length) (hl : zs.length ≤ 100000)
    (h : ∀ z ∈ zs, ∃ x q, z = .tup [x, q] ∧ ev cf e (((wiped σ [i, j]).set i (some x)).set j (some q)) M2 = .ok (.bl (p z)) M2) :
    ev cf (.bil .all (.comp [i, j] (.many [i, j]) (.zip a b) .nil e)) σ M = .ok (.bl (zs.all p)) M2 := by
  rw [s_bil, evL_comp, hs]
  simp only [Res.bind_ok]
  rw [turns_pure (M := M2) (g := []) True.intro (fun z => .bl (p z)) fun z hz => ?_]
  · simp only [Res.bind_ok, lcEnd, List.nil_append]
    rw [if_pos (by rw [lim_val, List.length_map]; omega)]
    simp only [Res.bind_ok, bil1]
    rw [bools_map p]
    simp only [Option.map_some, ofOpt_some, List.all_map]
    rfl
  · obtain ⟨x, q, rfl, e1⟩ := h z hz
    unfold lcTurn
    have hp : put (.many [i, j]) (.tup [x, q]) (wiped σ [i, j]) = some (((wiped σ [i, j]).set i (some x)).set j (some q)) := rfl
    rw [hp]
    simp only [st_nil0, Res.bind_ok, if_true]
    rw [e1]
    rfl
end Mi
namespace K3
open Mi
/-- it and what is in it, so deep, stands in the store; no tuple is too long -/
def inD : Nat → Store → Val → Prop
  | 0, M, x => inM M x
  | d + 1, M, x => inM M x ∧ ∀ xs, x = .tup xs → xs.length ≤ 2000 ∧ ∀ y ∈ xs, inD d M y
theorem inD.in {d : Nat} {M : Store} {x : Val} (h : inD d M x) : inM M x := by
  cases d with
  | zero => exact h
  | succ d => exact h.1
theorem inD.low {d : Nat} : ∀ {e : Nat} {M : Store} {x : Val}, inD (d + e) M x → inD d M x := by
  induction d with
  | zero => intro e M x h; exact h.in
  | succ d ih =>
    intro e M x h
    rw [show d + 1 + e = (d + e) + 1 by omega] at h
    exact ⟨h.1, fun xs ex => ⟨(h.2 xs ex).1, fun y hy => ih ((h.2 xs ex).2 y hy)⟩⟩
theorem inD.wf {d : Nat} {M : Store} {x : Val} (h : inD (d + 1) M x) : wfT M x := ⟨h.1, fun xs e y hy => ((h.2 xs e).2 y hy).in⟩
theorem inM.more {M X : Store} {x : Val} (h : inM M x) : inM (M ++ X) x := by
  cases x with
  | ref k =>
    have h' : k < M.length := h
    show k < (M ++ X).length
    rw [List.length_append]; omega
  | _ => exact h
theorem inD.more {d : Nat} {M X : Store} : ∀ {x : Val}, inD d M x → inD d (M ++ X) x := by
  induction d with
  | zero => intro x h; exact inM.more h
  | succ d ih => intro x h; exact ⟨inM.more h.1, fun xs ex => ⟨(h.2 xs ex).1, fun y hy => ih ((h.2 xs ex).2 y hy)⟩⟩
/-! ### the package's small judges -/
theorem c_number (n : Nat) (x : Val) (M : Store) (h : inM M x) : call pg (n + 3) 36 [x] M = .ok (.bl (fromB x 1)) M := by
  rw [call_s pg (n + 2) 36 _ _ ⟨1, 1, b36⟩ rfl rfl]
  simp [b36, start, c_from n x 1 M h]
theorem c_count (n : Nat) (x : Val) (M : Store) (h : inM M x) : call pg (n + 3) 100 [x] M = .ok (.bl (fromB x 0)) M := by
  rw [call_s pg (n + 2) 100 _ _ ⟨1, 1, b100⟩ rfl rfl]
  simp [b100, start, c_from n x 0 M h]
def baseB (x : Val) : Bool := isNon x || stampB x
theorem c_base (n : Nat) (x : Val) (M : Store) (h : wfT M x) : call pg (n + 5) 37 [x] M = .ok (.bl (baseB x)) M := by
  rw [call_s pg (n + 4) 37 _ _ ⟨1, 1, b37⟩ rfl rfl]
  cases e : isNon x <;> simp [b37, start, c_stamp n x M h, e, truth, baseB]
def conB (x : Val) : Bool := isNon x || textB x
theorem c_con (n : Nat) (x : Val) (M : Store) (h : inM M x) : call pg (n + 3) 38 [x] M = .ok (.bl (conB x)) M := by
  rw [call_s pg (n + 2) 38 _ _ ⟨1, 1, b38⟩ rfl rfl]
  cases e : isNon x <;> simp [b38, start, c_text n x M h, e, truth, conB]
def wordIn (ws : List (List Nat)) (x : Val) : Bool := match x with
  | .str s => ws.any fun w => w == s
  | _ => false
def wKinds : List (List Nat) := [[114, 101, 97, 100], [119, 114, 105, 116, 101]]
def wWords : List (List Nat) := [[97, 112, 112, 108, 105, 101, 100], [97, 115, 105, 100, 101], [117, 110, 102, 105, 116], [100, 114, 111, 112, 112, 101, 100]]
theorem c_kind (n : Nat) (x : Val) (M : Store) (h : inM M x) : call pg (n + 1) 39 [x] M = .ok (.bl (wordIn wKinds x)) M := by
  rw [call_s pg n 39 _ _ ⟨1, 1, b39⟩ rfl rfl]
  cases x with
  | str s =>
    have e : cmpV .inn (.str s) (.tup [.str [114, 101, 97, 100], .str [119, 114, 105, 116, 101]]) M = some (wordIn wKinds (.str s)) := by
      rw [cm_in_tt _ _ (.inr (.inr (.inr ⟨s, rfl⟩)))]; rfl
    simp [b39, start, isOf_str h, isS, truth, e]
  | _ => simp [b39, start, isOf_str h, isS, truth, wordIn]
theorem c_word (n : Nat) (x : Val) (M : Store) (h : inM M x) : call pg (n + 1) 40 [x] M = .ok (.bl (wordIn wWords x)) M := by
  rw [call_s pg n 40 _ _ ⟨1, 1, b40⟩ rfl rfl]
  cases x with
  | str s =>
    have e : cmpV .inn (.str s) (.tup [.str [97, 112, 112, 108, 105, 101, 100], .str [97, 115, 105, 100, 101], .str [117, 110, 102, 105, 116], .str [100, 114, 111, 112, 112, 101, 100]]) M = some (wordIn wWords (.str s)) := by
      rw [cm_in_tt _ _ (.inr (.inr (.inr ⟨s, rfl⟩)))]; rfl
    simp [b40, start, isOf_str h, isS, truth, e]
  | _ => simp [b40, start, isOf_str h, isS, truth, wordIn]
def talkB (x : Val) : Bool := match x with
  | .tup [a, b] => fromB a 0 && fromB b 0
  | _ => false
theorem talkB_len {xs : List Val} (h : ((xs.length : Int) == 2) = false) : talkB (.tup xs) = false := by
  match xs, h with
  | [], _ => rfl
  | [_], _ => rfl
  | _ :: _ :: _ :: _, _ => rfl
theorem c_talk (n : Nat) (x : Val) (M : Store) (h : wfT M x) : call pg (n + 4) 41 [x] M = .ok (.bl (talkB x)) M := by
  rw [call_s pg (n + 3) 41 _ _ ⟨1, 1, b41⟩ rfl rfl]
  cases x with
  | tup xs =>
    cases hl : ((xs.length : Int) == 2) with
    | false =>
      simp [b41, start, isOf_tuple h.1, isT, truth, bi1, lenV, hl, talkB_len hl]
    | true =>
      obtain ⟨a, b, rfl⟩ := two_yes hl
      have ha : inM M a := h.2 _ rfl a (by simp)
      have hb : inM M b := h.2 _ rfl b (by simp)
      have i1 : itemAt [a, b] 1 = some b := rfl
      have k1 := c_count n a M ha
      have k2 := c_count n b M hb
      cases h1 : fromB a 0 <;> simp [b41, start, isOf_tuple h.1, isT, truth, bi1, lenV, ixV, first, i1, k1, k2, h1, talkB]
  | _ => simp [b41, start, isOf_tuple h.1, isT, truth, talkB]
/-! ### parts by their words -/
theorem part_run (n : Nat) (x : Val) (s : List Nat) (f : PySem.Str) (g : Nat) (M : Store) (h1 : tabGet pg.eqx "JUDGES" (.str s) = some (.fn f)) (h2 : pg.eqx.fno f = some g) : call pg (n + 1) 42 [x, .str s] M = call pg n g [x] M := by
  rw [call_s pg n 42 _ _ ⟨2, 3, b42⟩ rfl rfl]
  show back M (exs ⟨call pg n, pg.repr, pg.eqx, pg.sub⟩ b42 [some x, some (.str s), none] M) = _
  unfold b42
  have e1 : ev ⟨call pg n, pg.repr, pg.eqx, pg.sub⟩ (.tget "JUDGES" (.var 1)) [some x, some (.str s), none] M = .ok (.fn f) M := by
    rw [s_tget, s_var]
    show (Res.ok (Val.str s) M).bind _ = _
    rw [Res.bind_ok, h1, ofOpt_some]
  rw [seq_nx (set_s e1), xs_cons, x_ret, s_callv]
  show back M ((Out.on (match pg.eqx.fno f with | some g => _ | none => _) _ _).seq _) = _
  rw [h2]
  simp only [ss_cons, ss_nil, s_var]
  show back M ((Out.on (call pg n g [x] M) _ _).seq _) = _
  cases call pg n g [x] M <;> rfl
inductive Pt where
  | count | number | client | name | text | stamp | base | edit | kind | talk | word
def Pt.w : Pt → List Nat
  | .count => [99, 111, 117, 110, 116]
  | .number => [110, 117, 109, 98, 101, 114]
  | .client => [99, 108, 105, 101, 110, 116]
  | .name => [110, 97, 109, 101]
  | .text => [116, 101, 120, 116]
  | .stamp => [115, 116, 97, 109, 112]
  | .base => [98, 97, 115, 101]
  | .edit => [101, 100, 105, 116]
  | .kind => [107, 105, 110, 100]
  | .talk => [116, 97, 108, 107]
  | .word => [119, 111, 114, 100]
def Pt.f : Pt → Val → Bool
  | .count => fun x => fromB x 0
  | .number => fun x => fromB x 1
  | .client => cliB
  | .name => nameB0
  | .text => conB
  | .stamp => stampB
  | .base => baseB
  | .edit => editB
  | .kind => wordIn wKinds
  | .talk => talkB
  | .word => wordIn wWords
theorem c_part (n : Nat) (p : Pt) (x : Val) (M : Store) (h : wfT M x) : call pg (n + 6) 42 [x, .str p.w] M = .ok (.bl (p.f x)) M := by
  cases p with
  | count => rw [Pt.w, part_run (n + 5) x _ "is_count" 100 M rfl rfl, c_count (n + 2) x M h.1]; rfl
  | number => rw [Pt.w, part_run (n + 5) x _ "is_number" 36 M rfl rfl, c_number (n + 2) x M h.1]; rfl
  | client => rw [Pt.w, part_run (n + 5) x _ "is_client" 2 M rfl rfl, c_client (n + 2) x M h.1]; rfl
  | name => rw [Pt.w, part_run (n + 5) x _ "is_name" 4 M rfl rfl, c_name (n + 4) x M h.1]; rfl
  | text => rw [Pt.w, part_run (n + 5) x _ "is_text_or_none" 38 M rfl rfl, c_con (n + 2) x M h.1]; rfl
  | stamp => rw [Pt.w, part_run (n + 5) x _ "is_stamp" 6 M rfl rfl, c_stamp (n + 1) x M h]; rfl
  | base => rw [Pt.w, part_run (n + 5) x _ "is_base" 37 M rfl rfl, c_base n x M h]; rfl
  | edit => rw [Pt.w, part_run (n + 5) x _ "is_edit" 10 M rfl rfl, c_edit n x M h]; rfl
  | kind => rw [Pt.w, part_run (n + 5) x _ "is_kind" 39 M rfl rfl, c_kind (n + 4) x M h.1]; rfl
  | talk => rw [Pt.w, part_run (n + 5) x _ "is_talk" 41 M rfl rfl, c_talk (n + 1) x M h]; rfl
  | word => rw [Pt.w, part_run (n + 5) x _ "is_done_word" 40 M rfl rfl, c_word (n + 4) x M h.1]; rfl
/-! ### forms -/
def partsB : List Pt → List Val → Bool
  | [], [] => true
  | p :: ps, x :: xs => p.f x && partsB ps xs
  | _, _ => false
def formB (ps : List Pt) (x : Val) : Bool := match x with
  | .tup xs => partsB ps xs
  | _ => false
def formE : E := .bil .all (.comp [2, 3] (.many [2, 3]) (.zip (.var 0) (.var 1)) .nil (.call 42 (.cons (.var 2) (.cons (.var 3) .nil))))
theorem b43_eq : b43 = .cons (.ite (.or (.not (.isi (.var 0) .tuple)) (.cmp .ne (.bi .len (.var 0)) (.bi .len (.var 1)))) (.cons (.ret (.cst (.bl false))) .nil) .nil) (.cons (.ret formE) .nil) := rfl
def pFits (z : Val) : Bool := match z with
  | .tup [x, .str s] => if s = Pt.w .count then Pt.f .count x else if s = Pt.w .number then Pt.f .number x else if s = Pt.w .client then Pt.f .client x else if s = Pt.w .name then Pt.f .name x else if s = Pt.w .text then Pt.f .text x else if s = Pt.w .stamp then Pt.f .stamp x else if s = Pt.w .base then Pt.f .base x else if s = Pt.w .edit then Pt.f .edit x else if s = Pt.w .kind then Pt.f .kind x else if s = Pt.w .talk then Pt.f .talk x else Pt.f .word x
  | _ => false
theorem pFits_eq (p : Pt) (x : Val) : pFits (.tup [x, .str p.w]) = p.f x := by
  cases p <;> simp [pFits, Pt.w]
theorem zip_mem {xs : List Val} : ∀ {ps : List Pt}, ∀ z ∈ zipV xs (ps.map fun p => .str p.w), ∃ x ∈ xs, ∃ p, z = .tup [x, .str (Pt.w p)] := by
  induction xs with
  | nil => intro ps z hz; cases hz
  | cons x xs ih =>
    intro ps z hz
    cases ps with
    | nil => cases hz
    | cons p ps =>
      simp only [List.map_cons, zipV] at hz
      rcases List.mem_cons.mp hz with rfl | hz
      · exact ⟨x, List.mem_cons_self, p, rfl⟩
      · obtain ⟨y, hy, q, e⟩ := ih z hz
        exact ⟨y, List.mem_cons_of_mem _ hy, q, e⟩
theorem zip_all : ∀ {xs : List Val} {ps : List Pt}, xs.length = ps.length → (zipV xs (ps.map fun p => .str p.w)).all pFits = partsB ps xs
  | [], [], _ => rfl
  | x :: xs, p :: ps, h => by
    simp only [List.map_cons, zipV, List.all_cons, pFits_eq, partsB]
    rw [zip_all (by simpa using h)]
theorem partsB_len : ∀ {ps : List Pt} {xs : List Val}, xs.length ≠ ps.length → partsB ps xs = false
  | [], [], h => absurd rfl h
  | [], _ :: _, _ => rfl
  | _ :: _, [], _ => rfl
  | p :: ps, x :: xs, h => by
    simp only [partsB]
    rw [partsB_len (by simpa using h), Bool.and_false]
theorem zip_len : ∀ (xs ys : List Val), (zipV xs ys).length ≤ xs.length
  | [], _ => Nat.le_refl _
  | _ :: _, [] => Nat.zero_le _
  | x :: xs, y :: ys => by
    have := zip_len xs ys
    simp only [zipV, List.length_cons]
    omega
theorem c_form (n : Nat) (ps : List Pt) (x : Val) (M : Store) (h : inD 2 M x) : call pg (n + 7) 43 [x, .tup (ps.map fun p => .str p.w)] M = .ok (.bl (formB ps x)) M := by
  rw [call_s pg (n + 6) 43 _ _ ⟨2, 4, b43⟩ rfl rfl]
  refine back_s ?_
  show exs ⟨call pg (n + 6), pg.repr, pg.eqx, pg.sub⟩ b43 [some x, some (.tup (ps.map fun p => .str p.w)), none, none] M = _
  rw [b43_eq]
  cases x with
  | tup xs =>
    obtain ⟨hl, hx⟩ := h.2 xs rfl
    by_cases hn : xs.length = ps.length
    · have c1 : ev ⟨call pg (n + 6), pg.repr, pg.eqx, pg.sub⟩ (.or (.not (.isi (.var 0) .tuple)) (.cmp .ne (.bi .len (.var 0)) (.bi .len (.var 1)))) [some (.tup xs), some (.tup (ps.map fun p => .str p.w)), none, none] M = .ok (.bl false) M := by
        simp [isOf, truth, bi1, lenV, ne_int, hn]
      rw [seq_nx (σ1 := [some (.tup xs), some (.tup (ps.map fun p => .str p.w)), none, none]) (M1 := M) (by rw [ite_f c1, xs_nil])]
      refine seq_ret (ret_s ?_)
      unfold formE formB
      simp only
      rw [← zip_all hn]
      refine all_zipB (M1 := M) pFits (by simp) (by decide) (by simp) (by simp) (by have := zip_len xs (ps.map fun p => .str p.w); omega) fun z hz => ?_
      obtain ⟨x, hx2, p, rfl⟩ := zip_mem z hz
      refine ⟨x, .str p.w, rfl, ?_⟩
      rw [call_2 (x := x) (y := .str p.w) (M1 := M) (M2 := M) (by rw [s_var]; rfl) (by rw [s_var]; rfl), pFits_eq]
      exact c_part n p x M (hx x hx2).wf
    · have c1 : ev ⟨call pg (n + 6), pg.repr, pg.eqx, pg.sub⟩ (.or (.not (.isi (.var 0) .tuple)) (.cmp .ne (.bi .len (.var 0)) (.bi .len (.var 1)))) [some (.tup xs), some (.tup (ps.map fun p => .str p.w)), none, none] M = .ok (.bl true) M := by
        have hb : ((xs.length : Int) == (ps.length : Int)) = false := by rw [beq_eq_false_iff_ne]; omega
        simp [isOf, truth, bi1, lenV, ne_int, hb]
      rw [xs_cons, ite_t c1, xs_cons, x_ret, s_cst]
      have : formB ps (.tup xs) = false := partsB_len hn
      rw [this]
      rfl
  | _ =>
    have c1 : ∀ y : Val, inM M y → isT y = false → ev ⟨call pg (n + 6), pg.repr, pg.eqx, pg.sub⟩ (.or (.not (.isi (.var 0) .tuple)) (.cmp .ne (.bi .len (.var 0)) (.bi .len (.var 1)))) [some y, some (.tup (ps.map fun p => .str p.w)), none, none] M = .ok (.bl true) M := fun y hy ht => by
      simp [isOf_tuple hy, ht, truth]
    rw [xs_cons, ite_t (c1 _ h.in rfl), xs_cons, x_ret, s_cst]
    rfl
end K3
end K3TAS

section K3TCS
set_option Elab.async false
set_option linter.all false
set_option maxRecDepth 100000
namespace K3
open Mi
theorem lim2t : (2 : Nat) ≤ LIM := by rw [lim_val]; omega
theorem four_yes {r : List Val} (h : ((r.length : Int) == 4) = true) : ∃ a b c d, r = [a, b, c, d] := by
  have : r.length = 4 := by simp at h; omega
  match r, this with
  | [a, b, c, d], _ => exact ⟨a, b, c, d, rfl⟩
theorem five_yes {r : List Val} (h : ((r.length : Int) == 5) = true) : ∃ a b c d e, r = [a, b, c, d, e] := by
  have : r.length = 5 := by simp at h; omega
  match r, this with
  | [a, b, c, d, e], _ => exact ⟨a, b, c, d, e, rfl⟩
/-! ### the law's small judges -/
theorem l_base (n : Nat) (x : Val) (M : Store) (h : wfT M x) : call pg (n + 5) 77 [x] M = .ok (.bl (baseB x)) M := by
  rw [call_s pg (n + 4) 77 _ _ ⟨1, 1, b77⟩ rfl rfl]
  cases e : isNon x <;> simp [b77, start, l_stamp n x M h, e, truth, baseB]
theorem l_con (n : Nat) (x : Val) (M : Store) (h : inM M x) : call pg (n + 2) 79 [x] M = .ok (.bl (conB x)) M := by
  rw [call_s pg (n + 1) 79 _ _ ⟨1, 1, b79⟩ rfl rfl]
  cases e : isNon x <;> simp [b79, start, l_text n x M h, e, truth, conB]
theorem l_kind (n : Nat) (x : Val) (M : Store) (h : inM M x) : call pg (n + 1) 80 [x] M = .ok (.bl (wordIn wKinds x)) M := by
  rw [call_s pg n 80 _ _ ⟨1, 1, b80⟩ rfl rfl]
  cases x with
  | str s =>
    have e : inl1 false (.str s) [.str [114, 101, 97, 100], .str [119, 114, 105, 116, 101]] = some (wordIn wKinds (.str s)) := rfl
    simp [b80, start, isOf_str h, isS, truth, lim2t, e]
  | _ => simp [b80, start, isOf_str h, isS, truth, wordIn]
theorem l_word (n : Nat) (x : Val) (M : Store) (h : inM M x) : call pg (n + 1) 81 [x] M = .ok (.bl (wordIn wWords x)) M := by
  rw [call_s pg n 81 _ _ ⟨1, 1, b81⟩ rfl rfl]
  have l4 : (4 : Nat) ≤ LIM := by rw [lim_val]; omega
  cases x with
  | str s =>
    have e : inl1 false (.str s) [.str [97, 112, 112, 108, 105, 101, 100], .str [97, 115, 105, 100, 101], .str [117, 110, 102, 105, 116], .str [100, 114, 111, 112, 112, 101, 100]] = some (wordIn wWords (.str s)) := rfl
    simp [b81, start, isOf_str h, isS, truth, l4, e]
  | _ => simp [b81, start, isOf_str h, isS, truth, wordIn]
theorem l_talk (n : Nat) (x : Val) (M : Store) (h : wfT M x) : call pg (n + 2) 82 [x] M = .ok (.bl (talkB x)) M := by
  rw [call_s pg (n + 1) 82 _ _ ⟨1, 1, b82⟩ rfl rfl]
  have k := l_long n x 2 M h.1
  cases x with
  | tup xs =>
    cases hl : ((xs.length : Int) == 2) with
    | false => simp [b82, start, k, longB, hl, truth, talkB_len hl]
    | true =>
      obtain ⟨a, b, rfl⟩ := two_yes hl
      have ha : inM M a := h.2 _ rfl a (by simp)
      have hb : inM M b := h.2 _ rfl b (by simp)
      have i1 : itemAt [a, b] 1 = some b := rfl
      have k1 := l_count n a M ha
      have k2 := l_count n b M hb
      cases h1 : fromB a 0 <;> simp [b82, start, k, longB, truth, ixV, first, i1, k1, k2, h1, talkB]
  | _ => simp [b82, start, k, longB, truth, talkB]
/-! ### the law's judges of rows -/
def fFile : List Pt := [.name, .stamp, .text]
def fLease : List Pt := [.name, .client, .kind, .talk, .count]
def fDone : List Pt := [.client, .number, .word, .stamp]
def fAside : List Pt := [.client, .number, .name, .base, .edit]
theorem form_len {ps : List Pt} {xs : List Val} {k : Int} (hk : (ps.length : Int) = k) (h : ((xs.length : Int) == k) = false) : formB ps (.tup xs) = false := by
  refine partsB_len fun z => ?_
  rw [beq_eq_false_iff_ne] at h
  exact h (by omega)
theorem l_file (n : Nat) (x : Val) (M : Store) (h : inD 2 M x) : call pg (n + 5) 83 [x] M = .ok (.bl (formB fFile x)) M := by
  rw [call_s pg (n + 4) 83 _ _ ⟨1, 1, b83⟩ rfl rfl]
  have k := l_long (n + 3) x 3 M h.in
  cases x with
  | tup xs =>
    cases hl : ((xs.length : Int) == 3) with
    | false =>
      rw [form_len (ps := fFile) rfl hl]
      simp [b83, start, k, longB, hl, truth]
    | true =>
      obtain ⟨a, b, c, rfl⟩ := thr_yes hl
      have hx := (h.2 _ rfl).2
      have i1 : itemAt [a, b, c] 1 = some b := rfl
      have i2 : itemAt [a, b, c] 2 = some c := rfl
      have k1 := l_name (n + 3) a M (hx a (by simp)).in
      have k2 := l_stamp n b M (hx b (by simp)).wf
      have k3 := l_con (n + 2) c M (hx c (by simp)).in
      have e : formB fFile (.tup [a, b, c]) = (nameB0 a && (stampB b && (conB c && true))) := rfl
      rw [e]
      cases h1 : nameB0 a <;> cases h2 : stampB b <;> simp [b83, start, k, longB, truth, ixV, first, i1, i2, k1, k2, k3, h1, h2]
  | _ => simp [b83, start, k, longB, truth, formB]
theorem l_lease (n : Nat) (x : Val) (M : Store) (h : inD 2 M x) : call pg (n + 5) 84 [x] M = .ok (.bl (formB fLease x)) M := by
  rw [call_s pg (n + 4) 84 _ _ ⟨1, 1, b84⟩ rfl rfl]
  have k := l_long (n + 3) x 5 M h.in
  cases x with
  | tup xs =>
    cases hl : ((xs.length : Int) == 5) with
    | false =>
      rw [form_len (ps := fLease) rfl hl]
      simp [b84, start, k, longB, hl, truth]
    | true =>
      obtain ⟨a, b, c, d, e, rfl⟩ := five_yes hl
      have hx := (h.2 _ rfl).2
      have i1 : itemAt [a, b, c, d, e] 1 = some b := rfl
      have i2 : itemAt [a, b, c, d, e] 2 = some c := rfl
      have i3 : itemAt [a, b, c, d, e] 3 = some d := rfl
      have i4 : itemAt [a, b, c, d, e] 4 = some e := rfl
      have k1 := l_name (n + 3) a M (hx a (by simp)).in
      have k2 := l_client (n + 2) b M (hx b (by simp)).in
      have k3 := l_kind (n + 3) c M (hx c (by simp)).in
      have k4 := l_talk (n + 2) d M (hx d (by simp)).wf
      have k5 := l_count (n + 3) e M (hx e (by simp)).in
      have ee : formB fLease (.tup [a, b, c, d, e]) = (nameB0 a && (cliB b && (wordIn wKinds c && (talkB d && (fromB e 0 && true))))) := rfl
      rw [ee]
      cases h1 : nameB0 a <;> cases h2 : cliB b <;> cases h3 : wordIn wKinds c <;> cases h4 : talkB d <;> simp [b84, start, k, longB, truth, ixV, first, i1, i2, i3, i4, k1, k2, k3, k4, k5, h1, h2, h3, h4]
  | _ => simp [b84, start, k, longB, truth, formB]
theorem inM_two {M : Store} {a b : Val} (ha : inM M a) (hb : inM M b) : wfT M (.tup [a, b]) := ⟨trivial, fun xs e y hy => by
  cases e
  rcases List.mem_cons.mp hy with rfl | hy
  · exact ha
  · rw [List.mem_singleton.mp hy]; exact hb⟩
theorem l_done (n : Nat) (x : Val) (M : Store) (h : inD 2 M x) : call pg (n + 5) 85 [x] M = .ok (.bl (formB fDone x)) M := by
  rw [call_s pg (n + 4) 85 _ _ ⟨1, 1, b85⟩ rfl rfl]
  have k := l_long (n + 3) x 4 M h.in
  cases x with
  | tup xs =>
    cases hl : ((xs.length : Int) == 4) with
    | false =>
      rw [form_len (ps := fDone) rfl hl]
      simp [b85, start, k, longB, hl, truth]
    | true =>
      obtain ⟨a, b, c, d, rfl⟩ := four_yes hl
      have hx := (h.2 _ rfl).2
      have i2 : itemAt [a, b, c, d] 2 = some c := rfl
      have i3 : itemAt [a, b, c, d] 3 = some d := rfl
      have ct : cut [a, b, c, d] none (some 2) = [a, b] := rfl
      have k1 := l_pair (n + 1) (.tup [a, b]) M (inM_two (hx a (by simp)).in (hx b (by simp)).in)
      have k3 := l_word (n + 3) c M (hx c (by simp)).in
      have k4 := l_stamp n d M (hx d (by simp)).wf
      have ee : formB fDone (.tup [a, b, c, d]) = (cliB a && (fromB b 1 && (wordIn wWords c && (stampB d && true)))) := rfl
      rw [ee]
      cases h1 : cliB a <;> cases h2 : fromB b 1 <;> cases h3 : wordIn wWords c <;> simp [b85, start, k, longB, truth, ixV, i2, i3, slV, ct, k1, k3, k4, pairB, h1, h2, h3]
  | _ => simp [b85, start, k, longB, truth, formB]
theorem l_aside (n : Nat) (x : Val) (M : Store) (h : inD 2 M x) : call pg (n + 6) 86 [x] M = .ok (.bl (formB fAside x)) M := by
  rw [call_s pg (n + 5) 86 _ _ ⟨1, 1, b86⟩ rfl rfl]
  have k := l_long (n + 4) x 5 M h.in
  cases x with
  | tup xs =>
    cases hl : ((xs.length : Int) == 5) with
    | false =>
      rw [form_len (ps := fAside) rfl hl]
      simp [b86, start, k, longB, hl, truth]
    | true =>
      obtain ⟨a, b, c, d, e, rfl⟩ := five_yes hl
      have hx := (h.2 _ rfl).2
      have i2 : itemAt [a, b, c, d, e] 2 = some c := rfl
      have i3 : itemAt [a, b, c, d, e] 3 = some d := rfl
      have i4 : itemAt [a, b, c, d, e] 4 = some e := rfl
      have ct : cut [a, b, c, d, e] none (some 2) = [a, b] := rfl
      have k1 := l_pair (n + 2) (.tup [a, b]) M (inM_two (hx a (by simp)).in (hx b (by simp)).in)
      have k3 := l_name (n + 4) c M (hx c (by simp)).in
      have k4 := l_base n d M (hx d (by simp)).wf
      have k5 := l_edit (n + 1) e M (hx e (by simp)).wf
      have ee : formB fAside (.tup [a, b, c, d, e]) = (cliB a && (fromB b 1 && (nameB0 c && (baseB d && (editB e && true))))) := rfl
      rw [ee]
      cases h1 : cliB a <;> cases h2 : fromB b 1 <;> cases h3 : nameB0 c <;> cases h4 : baseB d <;> simp [b86, start, k, longB, truth, ixV, i2, i3, i4, slV, ct, k1, k3, k4, k5, pairB, h1, h2, h3, h4]
  | _ => simp [b86, start, k, longB, truth, formB]
end K3
end K3TCS

section K3TBS
set_option Elab.async false
set_option linter.all false
set_option maxRecDepth 100000
namespace Mi
def natOf : Val → Nat
  | .int i => i.toNat
  | _ => 0
/-- all([e for i in range(a)]), by values -/
theorem all_rngB {cf : Cf} {σ : St} {M : Store} {own : List Nat} {i : Nat} {a e : E} {j : Int} (p : Nat → Bool) (ha : ev cf a σ M = .ok (.int j) M) (hj : j ≤ 100000) (hj0 : -100000 ≤ j) (h : ∀ k : Nat, (k : Int) < j → ev cf e ((wiped σ own).set i (some (.int (k : Nat)))) M = .ok (.bl (p k)) M) :
    ev cf (.bil .all (.comp own (.one i) (.rng a) .nil e)) σ M = .ok (.bl ((List.range j.toNat).all p)) M := by
  have hb : (decide (j < 2 ^ 62) && decide (-(2 ^ 62) ≤ j)) = true := by
    rw [Bool.and_eq_true]
    exact ⟨decide_eq_true (by omega), decide_eq_true (by omega)⟩
  rw [s_bil, evL_comp, sS_rng, ha]
  simp only [Res.bind_ok, hb, if_true]
  rw [turns_pure (M := M) (g := []) True.intro (fun x => .bl (p (natOf x))) fun x hx => ?_]
  · simp only [Res.bind_ok, lcEnd, List.nil_append]
    rw [if_pos (by rw [lim_val, List.length_map, List.length_map, List.length_range]; omega)]
    simp only [Res.bind_ok, bil1]
    rw [bools_map fun x => p (natOf x)]
    simp only [Option.map_some, ofOpt_some, List.all_map]
    congr 2
  · obtain ⟨k, hk, rfl⟩ := List.mem_map.mp hx
    unfold lcTurn
    simp only [put, st_nil0, Res.bind_ok, if_true]
    rw [h k (by have := List.mem_range.mp hk; omega)]
    rfl
theorem cut_take {α : Type} (xs : List α) (j : Nat) : cut xs none (some (j : Int)) = xs.take j := by
  have e : bound xs.length xs.length (some (j : Int)) = min j xs.length := by
    simp only [bound]
    rw [if_neg (by omega)]
    omega
  unfold cut
  rw [e]
  simp only [bound, List.drop_zero, Nat.sub_zero]
  rw [List.take_eq_take_iff]
  omega
theorem cut_drop {α : Type} (xs : List α) (j : Nat) : cut xs (some (j : Int)) none = xs.drop j := by
  have e : bound xs.length 0 (some (j : Int)) = min j xs.length := by
    simp only [bound]
    rw [if_neg (by omega)]
    omega
  unfold cut
  rw [e]
  simp only [bound]
  by_cases h : j ≤ xs.length
  · rw [Nat.min_eq_left h, List.take_of_length_le (by rw [List.length_drop]; exact Nat.le_refl _)]
  · rw [Nat.min_eq_right (by omega), List.drop_eq_nil_of_le (as := xs) (i := j) (by omega)]
    simp
end Mi
namespace K3
open Mi
/-! ### rows and their keys -/
/-- the kinds of a key's parts: texts, numbers -/
def patOk : List Bool → List Val → Prop
  | [], _ => True
  | b :: bs, v :: vs => (if b then isS v else isW v) = true ∧ patOk bs vs
  | _ :: _, [] => False
def keyV (m : Nat) (v : Val) : List Val := match v with
  | .tup xs => xs.take m
  | _ => []
def ascB : List (List Val) → Bool
  | [] => true
  | [_] => true
  | a :: b :: r => ltVs a b && ascB (b :: r)
def rowsB (f : Val → Bool) (m : Nat) (x : Val) : Bool := match x with
  | .tup rs => rs.all f && ascB (rs.map (keyV m))
  | _ => false
theorem isS_str {x : Val} (h : isS x = true) : ∃ s, x = .str s := by
  cases x <;> first | exact ⟨_, rfl⟩ | cases h
theorem pat_alks : ∀ {bs : List Bool} {xs ys : List Val}, patOk bs xs → patOk bs ys → alks (xs.take bs.length) (ys.take bs.length) = true ∧ noRefs (xs.take bs.length) = true ∧ depths (xs.take bs.length) = 0
  | [], xs, ys, _, _ => by simp [alks, noRefs, depths]
  | b :: bs, x :: xs, y :: ys, h, h' => by
    obtain ⟨h1, h2⟩ := h
    obtain ⟨h3, h4⟩ := h'
    obtain ⟨i1, i2, i3⟩ := pat_alks h2 h4
    simp only [List.length_cons, List.take_succ_cons, alks, noRefs, depths, i1, i2, i3, Bool.and_true]
    cases b with
    | true =>
      obtain ⟨s, rfl⟩ := isS_str (by simpa using h1)
      obtain ⟨t, rfl⟩ := isS_str (by simpa using h3)
      simp [alk, noRef, depth]
    | false =>
      obtain ⟨s, rfl⟩ := isW_int (by simpa using h1)
      obtain ⟨t, rfl⟩ := isW_int (by simpa using h3)
      simp [alk, noRef, depth]
theorem lt_keys {bs : List Bool} {xs ys : List Val} {M : Store} (h : patOk bs xs) (h' : patOk bs ys) : cmpV .lt (.tup (xs.take bs.length)) (.tup (ys.take bs.length)) M = some (ltVs (xs.take bs.length) (ys.take bs.length)) := by
  obtain ⟨i1, i2, i3⟩ := pat_alks h h'
  obtain ⟨_, i4, i5⟩ := pat_alks h' h
  simp only [cmpV, i1, i2, i3, i4, i5]
  rfl
/-- a row whose key has these kinds -/
def rowOk (bs : List Bool) (v : Val) : Prop := ∃ xs, v = .tup xs ∧ patOk bs xs ∧ xs.length ≤ 2000
theorem lt_rows {bs : List Bool} {v w : Val} {M : Store} (h : rowOk bs v) (h' : rowOk bs w) : cmpV .lt (.tup (keyV bs.length v)) (.tup (keyV bs.length w)) M = some (ltVs (keyV bs.length v) (keyV bs.length w)) := by
  obtain ⟨xs, rfl, h1, _⟩ := h
  obtain ⟨ys, rfl, h2, _⟩ := h'
  exact lt_keys h1 h2
theorem asc_zip : ∀ {ks : List (List Val)}, ((zipV (ks.map Val.tup) (ks.map Val.tup).tail).all fun z => match z with | .tup [.tup a, .tup b] => ltVs a b | _ => false) = ascB ks
  | [] => rfl
  | [_] => rfl
  | a :: b :: r => by
    have := asc_zip (ks := b :: r)
    simp only [List.map_cons, List.tail_cons, zipV, List.all_cons, ascB] at this ⊢
    rw [this]
theorem asc_rng : ∀ {ks : List (List Val)}, ((List.range (ks.length - 1)).all fun k => ltVs (ks.getD k []) (ks.getD (k + 1) [])) = ascB ks
  | [] => rfl
  | [_] => rfl
  | a :: b :: r => by
    have := asc_rng (ks := b :: r)
    simp only [List.length_cons, Nat.add_sub_cancel] at this ⊢
    rw [List.range_succ_eq_map, List.all_cons, List.all_map]
    simp only [Function.comp_def, ascB]
    rw [← this]
    rfl
/-! ### the package's rows -/
theorem b44_eq : b44 = .cons (.ret (.bil .all (.comp [1, 2] (.many [1, 2]) (.zip (.var 0) (.sl (.var 0) (.some (.cst (.int 1))) .none)) .nil (.cmp .lt (.var 1) (.var 2))))) .nil := rfl
theorem c_asc (n : Nat) {bs : List Bool} {rs : List Val} (M : Store) (hl : rs.length ≤ 2000) (h : ∀ v ∈ rs, rowOk bs v) : call pg (n + 1) 44 [.ref M.length] (M ++ [.lst (rs.map fun r => .tup (keyV bs.length r))]) = .ok (.bl (ascB (rs.map (keyV bs.length)))) (M ++ [.lst (rs.map fun r => .tup (keyV bs.length r))] ++ [.lst (rs.map fun r => .tup (keyV bs.length r)).tail]) := by
  rw [call_s pg n 44 _ _ ⟨1, 3, b44⟩ rfl rfl]
  refine back_s ?_
  rw [b44_eq]
  show exs ⟨call pg n, pg.repr, pg.eqx, pg.sub⟩ _ [some (.ref M.length), none, none] _ = _
  refine seq_ret (ret_s ?_)
  generalize hk : (rs.map fun r => Val.tup (keyV bs.length r)) = ks
  have hks : ks = (rs.map (keyV bs.length)).map Val.tup := by rw [← hk, List.map_map]; rfl
  have g1 : (M ++ [Obj.lst ks])[M.length]? = some (.lst ks) := by simp
  have g2 : (M ++ [Obj.lst ks] ++ [Obj.lst ks.tail])[M.length]? = some (.lst ks) := by simp
  have g3 : (M ++ [Obj.lst ks] ++ [Obj.lst ks.tail])[(M ++ [Obj.lst ks]).length]? = some (.lst ks.tail) := by simp
  have hs : evS ⟨call pg n, pg.repr, pg.eqx, pg.sub⟩ (.zip (.var 0) (.sl (.var 0) (.some (.cst (.int 1))) .none)) [some (.ref M.length), none, none] (M ++ [.lst ks]) = .ok (zipV ks ks.tail, [(M.length, ks), ((M ++ [Obj.lst ks]).length, ks.tail)]) (M ++ [.lst ks] ++ [.lst ks.tail]) := by
    have e : ev ⟨call pg n, pg.repr, pg.eqx, pg.sub⟩ (.sl (.var 0) (.some (.cst (.int 1))) .none) [some (.ref M.length), none, none] (M ++ [.lst ks]) = .ok (.ref (M ++ [Obj.lst ks]).length) (M ++ [.lst ks] ++ [.lst ks.tail]) := by
      have c1 : cut ks (some 1) none = ks.tail := by
        have := cut_drop ks 1
        rw [← List.drop_one]; exact this
      simp only [s_sl, so_some, so_none, s_cst, s_var, List.getElem?_cons_zero, Res.bind_ok, slV, g1, c1]
    rw [sS_zip, s_var]
    simp only [List.getElem?_cons_zero, Res.bind_ok]
    rw [e]
    simp only [Res.bind_ok, g2, g3]
  rw [s_bil, evL_comp, hs]
  simp only [Res.bind_ok]
  have hst : still (M ++ [Obj.lst ks] ++ [Obj.lst ks.tail]) (zipV ks ks.tail) [(M.length, ks), ((M ++ [Obj.lst ks]).length, ks.tail)] := ⟨g2, g3, trivial⟩
  rw [turns_pure hst (fun z => .bl (match z with | .tup [.tup a, .tup b] => ltVs a b | _ => false)) fun z hz => ?_]
  · simp only [Res.bind_ok, lcEnd, List.nil_append]
    have hl2 := zip_len ks ks.tail
    have hl3 : ks.length = rs.length := by rw [← hk, List.length_map]
    rw [if_pos (by rw [lim_val, List.length_map]; omega)]
    simp only [Res.bind_ok, bil1]
    rw [bools_map (fun z => match z with | .tup [.tup a, .tup b] => ltVs a b | _ => false)]
    simp only [Option.map_some, ofOpt_some, List.all_map]
    rw [← asc_zip, ← hks]
    rfl
  · have hz2 : ∃ v w, rowOk bs v ∧ rowOk bs w ∧ z = .tup [.tup (keyV bs.length v), .tup (keyV bs.length w)] := by
      have mem : ∀ {xs ys : List Val} {z : Val}, z ∈ zipV xs ys → ∃ x ∈ xs, ∃ y ∈ ys, z = .tup [x, y] := by
        intro xs
        induction xs with
        | nil => intro ys z hz; cases hz
        | cons x xs ih =>
          intro ys z hz
          cases ys with
          | nil => cases hz
          | cons y ys =>
            simp only [zipV] at hz
            rcases List.mem_cons.mp hz with rfl | hz
            · exact ⟨x, List.mem_cons_self, y, List.mem_cons_self, rfl⟩
            · obtain ⟨a, ha, b, hb, e⟩ := ih hz
              exact ⟨a, List.mem_cons_of_mem _ ha, b, List.mem_cons_of_mem _ hb, e⟩
      obtain ⟨x, hx, y, hy, rfl⟩ := mem hz
      rw [← hk] at hx
      have hy2 : y ∈ ks := List.mem_of_mem_tail hy
      rw [← hk] at hy2
      obtain ⟨v, hv, rfl⟩ := List.mem_map.mp hx
      obtain ⟨w, hw, rfl⟩ := List.mem_map.mp hy2
      exact ⟨v, w, h v hv, h w hw, rfl⟩
    obtain ⟨v, w, hv, hw, rfl⟩ := hz2
    unfold lcTurn
    have hp : put (.many [1, 2]) (.tup [.tup (keyV bs.length v), .tup (keyV bs.length w)]) (wiped [some (.ref M.length), none, none] [1, 2]) = some [some (.ref M.length), some (.tup (keyV bs.length v)), some (.tup (keyV bs.length w))] := rfl
    rw [hp]
    simp only [st_nil0, Res.bind_ok, if_true]
    rw [cmp_s (x := .tup (keyV bs.length v)) (y := .tup (keyV bs.length w)) (M1 := M ++ [Obj.lst ks] ++ [Obj.lst ks.tail]) (M2 := M ++ [Obj.lst ks] ++ [Obj.lst ks.tail]) (by rw [s_var]; rfl) (by rw [s_var]; rfl) (lt_rows hv hw)]
    rfl
end K3
end K3TBS

section K3TDS
set_option Elab.async false
set_option linter.all false
set_option maxRecDepth 100000
set_option maxHeartbeats 0
namespace K3
open Mi
noncomputable abbrev cfg (n : Nat) : Cf := ⟨call pg n, pg.repr, pg.eqx, pg.sub⟩
/-- the rows of a form have keys of these kinds -/
def keyed (f : Val → Bool) (bs : List Bool) : Prop := ∀ v, f v = true → ∃ xs, v = .tup xs ∧ patOk bs xs
theorem name_isS {a : Val} (h : nameB0 a = true) : isS a = true := by
  cases a <;> first | rfl | cases h
theorem cli_isW {a : Val} (h : cliB a = true) : isW a = true := by
  cases a <;> first | rfl | cases h
theorem from_isW {a : Val} {l : Int} (h : fromB a l = true) : isW a = true := by
  cases a <;> first | rfl | cases h
theorem keyed_file : keyed (formB fFile) [true] := fun v h => by
  cases v with
  | tup xs =>
    cases xs with
    | nil => cases h
    | cons a r =>
      have h' : (nameB0 a && partsB [.stamp, .text] r) = true := h
      exact ⟨_, rfl, name_isS (and2 h').1, trivial⟩
  | _ => cases h
theorem keyed_lease : keyed (formB fLease) [true, false] := fun v h => by
  cases v with
  | tup xs =>
    match xs, h with
    | [], h => cases h
    | [a], h => exact absurd (and2 (show (nameB0 a && false) = true from h)).2 Bool.false_ne_true
    | a :: b :: r, h =>
      have h' : (nameB0 a && (cliB b && partsB [.kind, .talk, .count] r)) = true := h
      exact ⟨_, rfl, name_isS (and2 h').1, cli_isW (and2 (and2 h').2).1, trivial⟩
  | _ => cases h
theorem keyed_done : keyed (formB fDone) [false] := fun v h => by
  cases v with
  | tup xs =>
    cases xs with
    | nil => cases h
    | cons a r =>
      have h' : (cliB a && partsB [.number, .word, .stamp] r) = true := h
      exact ⟨_, rfl, cli_isW (and2 h').1, trivial⟩
  | _ => cases h
theorem keyed_aside : keyed (formB fAside) [false, false] := fun v h => by
  cases v with
  | tup xs =>
    match xs, h with
    | [], h => cases h
    | [a], h => exact absurd (and2 (show (cliB a && false) = true from h)).2 Bool.false_ne_true
    | a :: b :: r, h =>
      have h' : (cliB a && (fromB b 1 && partsB [.name, .base, .edit] r)) = true := h
      exact ⟨_, rfl, cli_isW (and2 h').1, from_isW (and2 (and2 h').2).1, trivial⟩
  | _ => cases h
theorem rowOk_of {f : Val → Bool} {bs : List Bool} {M : Store} {d : Nat} {v : Val} (hk : keyed f bs) (hv : inD (d + 1) M v) (h : f v = true) : rowOk bs v := by
  obtain ⟨xs, rfl, hp⟩ := hk v h
  exact ⟨xs, rfl, hp, (hv.2 xs rfl).1⟩
theorem isi_s {n : Nat} {c : Cl} {i : Nat} {σ : St} {M : Store} {x : Val} {b : Bool} (h : σ[i]? = some (some x)) (h2 : isOf c x M = some b) : ev (cfg n) (.isi (.var i) c) σ M = .ok (.bl b) M := by
  rw [s_isi, s_var, h]
  simp only [Res.bind_ok, h2, Option.map_some, ofOpt_some]
/-! ### the package's rows -/
def keysL : L := .comp [3] (.one 3) (.seq (.var 0)) .nil (.sl (.var 3) .none (.some (.var 2)))
def formsE : E := .bil .all (.comp [3] (.one 3) (.seq (.var 0)) .nil (.call 43 (.cons (.var 3) (.cons (.var 1) .nil))))
theorem b45_eq : b45 = .cons (.ite (.or (.not (.isi (.var 0) .tuple)) (.not formsE)) (.cons (.ret (.cst (.bl false))) .nil) .nil) (.cons (.ret (.call 44 (.cons (.lst keysL) .nil))) .nil) := rfl
theorem ret_false {cf : Cf} {σ : St} {M : Store} : exs cf (.cons (.ret (.cst (.bl false))) .nil) σ M = .ret (.bl false) M := by
  rw [seq_ret (ret_s (s_cst (.bl false)))]
theorem c_rows (n : Nat) (ps : List Pt) (bs : List Bool) (x : Val) (M : Store) (h : inD 3 M x) (hk : keyed (formB ps) bs) : ∃ X, call pg (n + 8) 45 [x, .tup (ps.map fun p => .str p.w), .int (bs.length : Nat)] M = .ok (.bl (rowsB (formB ps) bs.length x)) (M ++ X) := by
  rw [call_s pg (n + 7) 45 _ _ ⟨3, 4, b45⟩ rfl rfl]
  show ∃ X, back M (exs (cfg (n + 7)) b45 [some x, some (.tup (ps.map fun p => .str p.w)), some (.int (bs.length : Nat)), none] M) = _
  rw [b45_eq]
  cases ht : isT x with
  | false =>
    have c1 : ev (cfg (n + 7)) (.or (.not (.isi (.var 0) .tuple)) (.not formsE)) [some x, some (.tup (ps.map fun p => .str p.w)), some (.int (bs.length : Nat)), none] M = .ok (.bl true) M :=
      or_t (not_s (isi_s (i := 0) (x := x) rfl (by rw [isOf_tuple h.in, ht])))
    refine ⟨[], ?_⟩
    rw [seq_ret (by rw [ite_t c1, ret_false]), back_ret, List.append_nil]
    cases x <;> first | rfl | cases ht
  | true =>
    obtain ⟨xs, rfl⟩ : ∃ xs, x = .tup xs := by
      cases x <;> first | exact ⟨_, rfl⟩ | cases ht
    obtain ⟨hl, hx⟩ := h.2 xs rfl
    have hlim : xs.length ≤ LIM := by rw [lim_val]; omega
    have e1 : ev (cfg (n + 7)) formsE [some (.tup xs), some (.tup (ps.map fun p => .str p.w)), some (.int (bs.length : Nat)), none] M = .ok (.bl (xs.all (formB ps))) M := by
      unfold formsE
      refine all_pure (formB ps) (v := .tup xs) (xs := xs) (by rw [s_var]; rfl) rfl hlim fun y hy => ?_
      rw [call_2 (x := y) (y := .tup (ps.map fun p => .str p.w)) (M1 := M) (M2 := M) (by rw [s_var]; rfl) (by rw [s_var]; rfl)]
      exact c_form n ps y M (hx y hy)
    have hi : ev (cfg (n + 7)) (.not (.isi (.var 0) .tuple)) [some (.tup xs), some (.tup (ps.map fun p => .str p.w)), some (.int (bs.length : Nat)), none] M = .ok (.bl false) M :=
      not_s (k := true) (isi_s (i := 0) (x := .tup xs) rfl (isOf_tuple (x := .tup xs) h.in))
    cases ha : xs.all (formB ps) with
    | false =>
      have c1 : ev (cfg (n + 7)) (.or (.not (.isi (.var 0) .tuple)) (.not formsE)) [some (.tup xs), some (.tup (ps.map fun p => .str p.w)), some (.int (bs.length : Nat)), none] M = .ok (.bl true) M := by
        rw [or_f hi, not_s e1, ha]; rfl
      refine ⟨[], ?_⟩
      rw [seq_ret (by rw [ite_t c1, ret_false]), back_ret, List.append_nil]
      simp only [rowsB, ha, Bool.false_and]
    | true =>
      have c1 : ev (cfg (n + 7)) (.or (.not (.isi (.var 0) .tuple)) (.not formsE)) [some (.tup xs), some (.tup (ps.map fun p => .str p.w)), some (.int (bs.length : Nat)), none] M = .ok (.bl false) M := by
        rw [or_f hi, not_s e1, ha]; rfl
      have hr : ∀ v ∈ xs, rowOk bs v := fun v hv => rowOk_of hk (hx v hv) (List.all_eq_true.mp ha v hv)
      have e2 : evL (cfg (n + 7)) keysL [some (.tup xs), some (.tup (ps.map fun p => .str p.w)), some (.int (bs.length : Nat)), none] M = .ok (xs.map fun r => .tup (keyV bs.length r)) M := by
        unfold keysL
        refine comp_pure (fun r => .tup (keyV bs.length r)) (v := .tup xs) (xs := xs) (by rw [s_var]; rfl) rfl hlim fun y hy => ?_
        obtain ⟨ys, rfl, _, _⟩ := hr y hy
        rw [s_sl, s_var]
        show (Res.ok (Val.tup ys) M).bind _ = _
        rw [Res.bind_ok, so_none, Res.bind_ok, so_some, s_var]
        show ((Res.ok (Val.int (bs.length : Nat)) M).bind _).bind _ = _
        simp only [Res.bind_ok, slV, cut_take]
        rfl
      have e3 := c_asc (n + 6) M hl hr
      refine ⟨[.lst (xs.map fun r => .tup (keyV bs.length r))] ++ [.lst (xs.map fun r => .tup (keyV bs.length r)).tail], ?_⟩
      rw [seq_nx (σ1 := [some (.tup xs), some (.tup (ps.map fun p => .str p.w)), some (.int (bs.length : Nat)), none]) (M1 := M) (by rw [ite_f c1, xs_nil])]
      rw [seq_ret (ret_s (by rw [call_1 (lst_s e2)]; exact e3)), back_ret, ← List.append_assoc]
      simp only [rowsB, ha, Bool.true_and]
/-! ### the law's rows -/
def fitsE : E := .bil .all (.comp [4] (.one 4) (.seq (.var 0)) .nil (.callv 1 (.cons (.var 4) .nil)))
def ascE : E := .bil .all (.comp [3] (.one 3) (.rng (.op .sub (.bi .len (.var 0)) (.cst (.int 1)))) .nil (.cmp .lt (.sl (.ix (.var 0) (.var 3)) .none (.some (.var 2))) (.sl (.ix (.var 0) (.op .add (.var 3) (.cst (.int 1)))) .none (.some (.var 2)))))
theorem b78_eq : b78 = .cons (.ite (.or (.not (.isi (.var 0) .tuple)) (.not fitsE)) (.cons (.ret (.cst (.bl false))) .nil) .nil) (.cons (.ret ascE) .nil) := rfl
theorem sl_key {cf : Cf} {σ : St} {M : Store} {e : E} {ys : List Val} {m : Nat} (h : ev cf e σ M = .ok (.tup ys) M) (h2 : σ[2]? = some (some (.int (m : Nat)))) : ev cf (.sl e .none (.some (.var 2))) σ M = .ok (.tup (ys.take m)) M := by
  rw [s_sl, h, Res.bind_ok, so_none, Res.bind_ok, so_some, s_var, h2]
  simp only [Res.bind_ok, slV, cut_take]
theorem l_rows (n : Nat) (nm : PySem.Str) (g : Nat) (f : Val → Bool) (bs : List Bool) (x : Val) (M : Store) (h : inD 3 M x) (hk : keyed f bs) (hg : pg.eqx.fno nm = some g) (hf : ∀ y, inD 2 M y → call pg n g [y] M = .ok (.bl (f y)) M) :
    call pg (n + 1) 78 [x, .fn nm, .int (bs.length : Nat)] M = .ok (.bl (rowsB f bs.length x)) M := by
  rw [call_s pg n 78 _ _ ⟨3, 5, b78⟩ rfl rfl]
  show back M (exs (cfg n) b78 [some x, some (.fn nm), some (.int (bs.length : Nat)), none, none] M) = _
  rw [b78_eq]
  cases ht : isT x with
  | false =>
    have c1 : ev (cfg n) (.or (.not (.isi (.var 0) .tuple)) (.not fitsE)) [some x, some (.fn nm), some (.int (bs.length : Nat)), none, none] M = .ok (.bl true) M :=
      or_t (not_s (isi_s (i := 0) (x := x) rfl (by rw [isOf_tuple h.in, ht])))
    rw [seq_ret (by rw [ite_t c1, ret_false]), back_ret]
    cases x <;> first | rfl | cases ht
  | true =>
    obtain ⟨xs, rfl⟩ : ∃ xs, x = .tup xs := by
      cases x <;> first | exact ⟨_, rfl⟩ | cases ht
    obtain ⟨hl, hx⟩ := h.2 xs rfl
    have hlim : xs.length ≤ LIM := by rw [lim_val]; omega
    have e1 : ev (cfg n) fitsE [some (.tup xs), some (.fn nm), some (.int (bs.length : Nat)), none, none] M = .ok (.bl (xs.all f)) M := by
      unfold fitsE
      refine all_pure f (v := .tup xs) (xs := xs) (by rw [s_var]; rfl) rfl hlim fun y hy => ?_
      rw [s_callv]
      show (match pg.eqx.fno nm with | some g => _ | none => _) = _
      rw [hg]
      simp only [ss_cons, ss_nil, s_var]
      exact hf y (hx y hy)
    have hi : ev (cfg n) (.not (.isi (.var 0) .tuple)) [some (.tup xs), some (.fn nm), some (.int (bs.length : Nat)), none, none] M = .ok (.bl false) M :=
      not_s (k := true) (isi_s (i := 0) (x := .tup xs) rfl (isOf_tuple (x := .tup xs) h.in))
    cases ha : xs.all f with
    | false =>
      have c1 : ev (cfg n) (.or (.not (.isi (.var 0) .tuple)) (.not fitsE)) [some (.tup xs), some (.fn nm), some (.int (bs.length : Nat)), none, none] M = .ok (.bl true) M := by
        rw [or_f hi, not_s e1, ha]; rfl
      rw [seq_ret (by rw [ite_t c1, ret_false]), back_ret]
      simp only [rowsB, ha, Bool.false_and]
    | true =>
      have c1 : ev (cfg n) (.or (.not (.isi (.var 0) .tuple)) (.not fitsE)) [some (.tup xs), some (.fn nm), some (.int (bs.length : Nat)), none, none] M = .ok (.bl false) M := by
        rw [or_f hi, not_s e1, ha]; rfl
      have hr : ∀ v ∈ xs, rowOk bs v := fun v hv => rowOk_of hk (hx v hv) (List.all_eq_true.mp ha v hv)
      have e2 : ev (cfg n) ascE [some (.tup xs), some (.fn nm), some (.int (bs.length : Nat)), none, none] M = .ok (.bl (ascB (xs.map (keyV bs.length)))) M := by
        unfold ascE
        have el : ev (cfg n) (.op .sub (.bi .len (.var 0)) (.cst (.int 1))) [some (.tup xs), some (.fn nm), some (.int (bs.length : Nat)), none, none] M = .ok (.int ((xs.length : Int) - 1)) M := by
          refine op_s (x := .int (xs.length : Nat)) (y := .int 1) (M1 := M) (M2 := M) ?_ (s_cst _) rfl
          rw [s_bi, s_var]; rfl
        rw [all_rngB (fun k => ltVs ((xs.map (keyV bs.length)).getD k []) ((xs.map (keyV bs.length)).getD (k + 1) [])) el (by omega) (by omega) fun k hk2 => ?_]
        · have e : ((xs.length : Int) - 1).toNat = (xs.map (keyV bs.length)).length - 1 := by rw [List.length_map]; omega
          rw [e, asc_rng]
        · have h1 : k < xs.length := by omega
          have h2 : k + 1 < xs.length := by omega
          obtain ⟨ys, ey, py, _⟩ := hr _ (List.getElem_mem h1)
          obtain ⟨zs, ez, pz, _⟩ := hr _ (List.getElem_mem h2)
          have g1 : (xs.map (keyV bs.length)).getD k [] = ys.take bs.length := by
            simp [List.getD, h1, ey, keyV]
          have g2 : (xs.map (keyV bs.length)).getD (k + 1) [] = zs.take bs.length := by
            simp [List.getD, h2, ez, keyV]
          rw [g1, g2]
          have at1 : itemAt xs ((k : Nat) : Int) = some (.tup ys) := by
            unfold itemAt place
            rw [if_pos (by omega), if_pos (by omega)]
            simp [h1, ey]
          have at2 : itemAt xs (((k : Nat) : Int) + 1) = some (.tup zs) := by
            unfold itemAt place
            rw [if_pos (by omega), if_pos (by omega)]
            have e : (((k : Nat) : Int) + 1).toNat = k + 1 := by omega
            rw [e]
            simp [h2, ez]
          refine cmp_s (x := .tup (ys.take bs.length)) (y := .tup (zs.take bs.length)) (M1 := M) (M2 := M) (sl_key (ix_s (x := .tup xs) (y := .int (k : Nat)) (M1 := M) (M2 := M) ?_ ?_ at1) ?_) (sl_key (ix_s (x := .tup xs) (y := .int ((k : Nat) + 1)) (M1 := M) (M2 := M) ?_ ?_ at2) ?_) (lt_keys py pz)
          · rw [s_var]; rfl
          · rw [s_var]; rfl
          · rfl
          · rw [s_var]; rfl
          · refine op_s (x := .int (k : Nat)) (y := .int 1) (M1 := M) (M2 := M) ?_ (s_cst _) rfl
            rw [s_var]; rfl
          · rfl
      rw [seq_nx (σ1 := [some (.tup xs), some (.fn nm), some (.int (bs.length : Nat)), none, none]) (M1 := M) (by rw [ite_f c1, xs_nil])]
      rw [seq_ret (ret_s e2), back_ret]
      simp only [rowsB, ha, Bool.true_and]
end K3
end K3TDS

section K3TES
set_option Elab.async false
set_option linter.all false
set_option maxRecDepth 100000
set_option maxHeartbeats 0
namespace K3
open Mi
def tableB (x : Val) : Bool := match x with
  | .tup [c, f, l, d, a] => (fromB c 0 && (rowsB (formB fFile) 1 f && rowsB (formB fLease) 2 l)) && (rowsB (formB fDone) 1 d && rowsB (formB fAside) 2 a)
  | _ => false
theorem tableB_len {xs : List Val} (h : ((xs.length : Int) == 5) = false) : tableB (.tup xs) = false := by
  match xs, h with
  | [], _ => rfl
  | [_], _ => rfl
  | [_, _], _ => rfl
  | [_, _, _], _ => rfl
  | [_, _, _, _], _ => rfl
  | _ :: _ :: _ :: _ :: _ :: _ :: _, _ => rfl
theorem c_files (n : Nat) (x : Val) (M : Store) (h : inD 3 M x) : ∃ X, call pg (n + 9) 49 [x] M = .ok (.bl (rowsB (formB fFile) 1 x)) (M ++ X) := by
  obtain ⟨X, e⟩ := c_rows n fFile [true] x M h keyed_file
  refine ⟨X, ?_⟩
  rw [call_s pg (n + 8) 49 _ _ ⟨1, 1, b49⟩ rfl rfl]
  show back M (exs (cfg (n + 8)) b49 [some x] M) = _
  unfold b49
  rw [seq_ret (ret_s (v := .bl (rowsB (formB fFile) 1 x)) (M1 := M ++ X) ?_), back_ret]
  rw [s_call, ss_cons, s_var]
  show ((Res.ok x M).bind _).bind _ = _
  rw [Res.bind_ok, ss_cons, s_cst, Res.bind_ok, ss_cons, s_cst, Res.bind_ok, ss_nil]
  simp only [Res.bind_ok]
  exact e
theorem call_3c {cf : Cf} {σ : St} {M : Store} {g i : Nat} {x u w : Val} (h : σ[i]? = some (some x)) : ev cf (.call g (.cons (.var i) (.cons (.cst u) (.cons (.cst w) .nil)))) σ M = cf.call g [x, u, w] M := by
  rw [s_call, ss_cons, s_var, h]
  simp only [Res.bind_ok, ss_cons, s_cst, ss_nil]
theorem call_1v {cf : Cf} {σ : St} {M : Store} {g i : Nat} {x : Val} (h : σ[i]? = some (some x)) : ev cf (.call g (.cons (.var i) .nil)) σ M = cf.call g [x] M := by
  rw [s_call, ss_cons, s_var, h]
  simp only [Res.bind_ok, ss_nil]
def tLease : Val := .tup (fLease.map fun p => .str p.w)
def tDone : Val := .tup (fDone.map fun p => .str p.w)
def tAside : Val := .tup (fAside.map fun p => .str p.w)
def tabA : E := .or (.not (.isi (.var 0) .tuple)) (.cmp .ne (.bi .len (.var 0)) (.cst (.int 5)))
def tabB : E := .or (.not (.call 100 (.cons (.var 1) .nil))) (.or (.not (.call 49 (.cons (.var 2) .nil))) (.not (.call 45 (.cons (.var 3) (.cons (.cst tLease) (.cons (.cst (.int 2)) .nil))))))
def tabC : E := .and (.call 45 (.cons (.var 4) (.cons (.cst tDone) (.cons (.cst (.int 1)) .nil)))) (.call 45 (.cons (.var 5) (.cons (.cst tAside) (.cons (.cst (.int 2)) .nil))))
theorem b50_eq : b50 = .cons (.ite tabA (.cons (.ret (.cst (.bl false))) .nil) .nil) (.cons (.unp [1, 2, 3, 4, 5] (.var 0)) (.cons (.ite tabB (.cons (.ret (.cst (.bl false))) .nil) .nil) (.cons (.ret tabC) .nil))) := rfl
theorem tabA_run {n : Nat} {σ : St} {M : Store} {x : Val} (h : σ[0]? = some (some x)) (hi : inM M x) : ∃ b, ev (cfg n) tabA σ M = .ok (.bl b) M ∧ (b = false → ∃ c f l d a, x = .tup [c, f, l, d, a]) ∧ (b = true → tableB x = false) := by
  unfold tabA
  cases ht : isT x with
  | false =>
    refine ⟨true, or_t (not_s (isi_s (i := 0) (x := x) h (by rw [isOf_tuple hi, ht]))), fun z => (by cases z), fun _ => ?_⟩
    cases x <;> first | rfl | cases ht
  | true =>
    obtain ⟨xs, rfl⟩ : ∃ xs, x = .tup xs := by
      cases x <;> first | exact ⟨_, rfl⟩ | cases ht
    refine ⟨!((xs.length : Int) == 5), ?_, fun z => ?_, fun z => ?_⟩
    · rw [or_f (not_s (k := true) (isi_s (i := 0) (x := .tup xs) h (isOf_tuple (x := .tup xs) hi)))]
      refine cmp_s (x := .int (xs.length : Nat)) (y := .int 5) (M1 := M) (M2 := M) ?_ (s_cst _) rfl
      rw [s_bi, s_var, h]; rfl
    · have z' : ((xs.length : Int) == 5) = true := by simpa using z
      obtain ⟨a, b, c, d, e, rfl⟩ := five_yes z'
      exact ⟨a, b, c, d, e, rfl⟩
    · exact tableB_len (by simpa using z)
theorem c_table (n : Nat) (x : Val) (M : Store) (h : inD 4 M x) : ∃ X, call pg (n + 10) 50 [x] M = .ok (.bl (tableB x)) (M ++ X) := by
  rw [call_s pg (n + 9) 50 _ _ ⟨1, 6, b50⟩ rfl rfl]
  show ∃ X, back M (exs (cfg (n + 9)) b50 [some x, none, none, none, none, none] M) = _
  rw [b50_eq]
  obtain ⟨b, e0, q1, q2⟩ := tabA_run (n := n + 9) (σ := [some x, none, none, none, none, none]) (M := M) rfl h.in
  cases b with
  | true =>
    refine ⟨[], ?_⟩
    rw [seq_ret (by rw [ite_t e0, ret_false]), back_ret, List.append_nil, q2 rfl]
  | false =>
    obtain ⟨c, f, l, d, a, rfl⟩ := q1 rfl
    have hx := (h.2 _ rfl).2
    have hc := hx c (by simp)
    have hf := hx f (by simp)
    have hl := hx l (by simp)
    have hd := hx d (by simp)
    have ha := hx a (by simp)
    rw [seq_nx (σ1 := [some (.tup [c, f, l, d, a]), none, none, none, none, none]) (M1 := M) (by rw [ite_f e0, xs_nil])]
    rw [seq_nx (σ1 := [some (.tup [c, f, l, d, a]), some c, some f, some l, some d, some a]) (M1 := M) (by rw [x_unp, s_var]; rfl)]
    generalize hσ : [some (Val.tup [c, f, l, d, a]), some c, some f, some l, some d, some a] = σ
    have v1 : σ[1]? = some (some c) := by rw [← hσ]; rfl
    have v2 : σ[2]? = some (some f) := by rw [← hσ]; rfl
    have v3 : σ[3]? = some (some l) := by rw [← hσ]; rfl
    have v4 : σ[4]? = some (some d) := by rw [← hσ]; rfl
    have v5 : σ[5]? = some (some a) := by rw [← hσ]; rfl
    have k1 : ev (cfg (n + 9)) (.not (.call 100 (.cons (.var 1) .nil))) σ M = .ok (.bl (!fromB c 0)) M := not_s (by rw [call_1v v1]; exact c_count (n + 6) c M hc.in)
    have fin : ∀ M0 : Store, exs (cfg (n + 9)) (.cons (.ret (.cst (.bl false))) .nil) σ M0 = .ret (.bl false) M0 := fun M0 => ret_false
    cases b1 : fromB c 0 with
    | false =>
      rw [b1] at k1
      refine ⟨[], ?_⟩
      rw [seq_ret (by rw [ite_t (by unfold tabB; exact or_t k1), fin]), back_ret, List.append_nil]
      simp only [tableB, b1, Bool.false_and]
    | true =>
      rw [b1] at k1
      obtain ⟨X1, e1⟩ := c_files n f M hf
      have k2 : ev (cfg (n + 9)) (.not (.call 49 (.cons (.var 2) .nil))) σ M = .ok (.bl (!rowsB (formB fFile) 1 f)) (M ++ X1) := not_s (by rw [call_1v v2]; exact e1)
      cases b2 : rowsB (formB fFile) 1 f with
      | false =>
        rw [b2] at k2
        refine ⟨X1, ?_⟩
        rw [seq_ret (by rw [ite_t (by unfold tabB; rw [or_f k1]; exact or_t k2), fin]), back_ret]
        simp only [tableB, b1, b2, Bool.false_and, Bool.and_false]
      | true =>
        rw [b2] at k2
        obtain ⟨X2, e2⟩ := c_rows (n + 1) fLease [true, false] l (M ++ X1) hl.more keyed_lease
        have k3 : ev (cfg (n + 9)) (.not (.call 45 (.cons (.var 3) (.cons (.cst tLease) (.cons (.cst (.int 2)) .nil))))) σ (M ++ X1) = .ok (.bl (!rowsB (formB fLease) 2 l)) (M ++ X1 ++ X2) := not_s (by rw [call_3c v3]; exact e2)
        cases b3 : rowsB (formB fLease) 2 l with
        | false =>
          rw [b3] at k3
          refine ⟨X1 ++ X2, ?_⟩
          rw [seq_ret (by rw [ite_t (by unfold tabB; rw [or_f k1, or_f k2]; exact k3), fin]), back_ret, List.append_assoc]
          simp only [tableB, b1, b2, b3, Bool.false_and, Bool.and_false]
        | true =>
          rw [b3] at k3
          rw [seq_nx (σ1 := σ) (M1 := M ++ X1 ++ X2) (by rw [ite_f (by unfold tabB; rw [or_f k1, or_f k2]; exact k3), xs_nil])]
          obtain ⟨X3, e3⟩ := c_rows (n + 1) fDone [false] d (M ++ X1 ++ X2) hd.more.more keyed_done
          have k4 : ev (cfg (n + 9)) (.call 45 (.cons (.var 4) (.cons (.cst tDone) (.cons (.cst (.int 1)) .nil)))) σ (M ++ X1 ++ X2) = .ok (.bl (rowsB (formB fDone) 1 d)) (M ++ X1 ++ X2 ++ X3) := by rw [call_3c v4]; exact e3
          cases b4 : rowsB (formB fDone) 1 d with
          | false =>
            rw [b4] at k4
            refine ⟨X1 ++ X2 ++ X3, ?_⟩
            rw [seq_ret (ret_s (by unfold tabC; exact and_f k4)), back_ret, List.append_assoc, List.append_assoc, List.append_assoc]
            simp only [tableB, b1, b2, b3, b4, Bool.false_and, Bool.and_false]
          | true =>
            rw [b4] at k4
            obtain ⟨X4, e4⟩ := c_rows (n + 1) fAside [false, false] a (M ++ X1 ++ X2 ++ X3) ha.more.more.more keyed_aside
            refine ⟨X1 ++ X2 ++ X3 ++ X4, ?_⟩
            rw [seq_ret (ret_s (v := .bl (rowsB (formB fAside) 2 a)) (M1 := M ++ X1 ++ X2 ++ X3 ++ X4) (by unfold tabC; rw [and_t k4, call_3c v5]; exact e4)), back_ret]
            simp only [tableB, b1, b2, b3, b4, Bool.true_and, List.append_assoc]
/-! ### the law's table -/
def ltA : E := .or (.not (.call 28 (.cons (.var 0) (.cons (.cst (.int 5)) .nil)))) (.not (.call 27 (.cons (.ix (.var 0) (.cst (.int 0))) .nil)))
def ltRow (i : Int) (nm : PySem.Str) (m : Int) : E := .call 78 (.cons (.ix (.var 0) (.cst (.int i))) (.cons (.cst (.fn nm)) (.cons (.cst (.int m)) .nil)))
theorem b87_eq : b87 = .cons (.ite ltA (.cons (.ret (.cst (.bl false))) .nil) .nil) (.cons (.ite (.or (.not (ltRow 1 "_law_file_fits" 1)) (.not (ltRow 2 "_law_lease_fits" 2))) (.cons (.ret (.cst (.bl false))) .nil) .nil) (.cons (.ret (.and (ltRow 3 "_law_done_fits" 1) (ltRow 4 "_law_aside_fits" 2))) .nil)) := rfl
theorem ltRow_run {n : Nat} {σ : St} {M : Store} {xs : List Val} {y : Val} {i m : Int} {nm : PySem.Str} (h : σ[0]? = some (some (.tup xs))) (hi : itemAt xs i = some y) : ev (cfg n) (ltRow i nm m) σ M = call pg n 78 [y, .fn nm, .int m] M := by
  unfold ltRow
  rw [s_call, ss_cons, ix_s (x := .tup xs) (y := .int i) (M1 := M) (M2 := M) (v := y) (by rw [s_var, h]) (s_cst _) hi]
  simp only [Res.bind_ok, ss_cons, s_cst, ss_nil]
theorem l_table (n : Nat) (x : Val) (M : Store) (h : inD 4 M x) : call pg (n + 8) 87 [x] M = .ok (.bl (tableB x)) M := by
  rw [call_s pg (n + 7) 87 _ _ ⟨1, 1, b87⟩ rfl rfl]
  show back M (exs (cfg (n + 7)) b87 [some x] M) = _
  rw [b87_eq]
  have k0 : ev (cfg (n + 7)) (.not (.call 28 (.cons (.var 0) (.cons (.cst (.int 5)) .nil)))) [some x] M = .ok (.bl (!longB x 5)) M := by
    refine not_s ?_
    rw [call_2 (x := x) (y := .int 5) (M1 := M) (M2 := M) (by rw [s_var]; rfl) (s_cst _)]
    exact l_long (n + 6) x 5 M h.in
  cases hl : longB x 5 with
  | false =>
    rw [hl] at k0
    rw [seq_ret (by rw [ite_t (by unfold ltA; exact or_t k0), ret_false]), back_ret]
    have : tableB x = false := by
      cases x with
      | tup xs => exact tableB_len hl
      | _ => rfl
    rw [this]
  | true =>
    rw [hl] at k0
    obtain ⟨xs, rfl⟩ : ∃ xs, x = .tup xs := by
      cases x <;> first | exact ⟨_, rfl⟩ | cases hl
    obtain ⟨c, f, l, d, a, rfl⟩ := five_yes hl
    have hx := (h.2 _ rfl).2
    have hc := hx c (by simp)
    have hf := hx f (by simp)
    have hle := hx l (by simp)
    have hd := hx d (by simp)
    have ha := hx a (by simp)
    generalize hσ : [some (Val.tup [c, f, l, d, a])] = σ at k0 ⊢
    have v0 : σ[0]? = some (some (.tup [c, f, l, d, a])) := by rw [← hσ]; rfl
    have k1 : ev (cfg (n + 7)) (.not (.call 27 (.cons (.ix (.var 0) (.cst (.int 0))) .nil))) σ M = .ok (.bl (!fromB c 0)) M := by
      refine not_s ?_
      rw [call_1 (x := c) (M1 := M) (ix_s (x := .tup [c, f, l, d, a]) (y := .int 0) (M1 := M) (M2 := M) (by rw [s_var, v0]) (s_cst _) (first c _))]
      exact l_count (n + 6) c M hc.in
    have r1 : ev (cfg (n + 7)) (.not (ltRow 1 "_law_file_fits" 1)) σ M = .ok (.bl (!rowsB (formB fFile) 1 f)) M := not_s (by
      rw [ltRow_run v0 (show itemAt [c, f, l, d, a] 1 = some f from rfl)]
      exact l_rows (n + 6) "_law_file_fits" 83 (formB fFile) [true] f M hf keyed_file rfl fun y hy => l_file (n + 1) y M hy)
    have r2 : ev (cfg (n + 7)) (.not (ltRow 2 "_law_lease_fits" 2)) σ M = .ok (.bl (!rowsB (formB fLease) 2 l)) M := not_s (by
      rw [ltRow_run v0 (show itemAt [c, f, l, d, a] 2 = some l from rfl)]
      exact l_rows (n + 6) "_law_lease_fits" 84 (formB fLease) [true, false] l M hle keyed_lease rfl fun y hy => l_lease (n + 1) y M hy)
    have r3 : ev (cfg (n + 7)) (ltRow 3 "_law_done_fits" 1) σ M = .ok (.bl (rowsB (formB fDone) 1 d)) M := by
      rw [ltRow_run v0 (show itemAt [c, f, l, d, a] 3 = some d from rfl)]
      exact l_rows (n + 6) "_law_done_fits" 85 (formB fDone) [false] d M hd keyed_done rfl fun y hy => l_done (n + 1) y M hy
    have r4 : ev (cfg (n + 7)) (ltRow 4 "_law_aside_fits" 2) σ M = .ok (.bl (rowsB (formB fAside) 2 a)) M := by
      rw [ltRow_run v0 (show itemAt [c, f, l, d, a] 4 = some a from rfl)]
      exact l_rows (n + 6) "_law_aside_fits" 86 (formB fAside) [false, false] a M ha keyed_aside rfl fun y hy => l_aside n y M hy
    cases b1 : fromB c 0 with
    | false =>
      rw [b1] at k1
      rw [seq_ret (by rw [ite_t (by unfold ltA; rw [or_f k0]; exact k1), ret_false]), back_ret]
      simp only [tableB, b1, Bool.false_and]
    | true =>
      rw [b1] at k1
      rw [seq_nx (σ1 := σ) (M1 := M) (by rw [ite_f (by unfold ltA; rw [or_f k0]; exact k1), xs_nil])]
      cases b2 : rowsB (formB fFile) 1 f with
      | false =>
        rw [b2] at r1
        rw [seq_ret (by rw [ite_t (or_t r1), ret_false]), back_ret]
        simp only [tableB, b1, b2, Bool.false_and, Bool.and_false]
      | true =>
        rw [b2] at r1
        cases b3 : rowsB (formB fLease) 2 l with
        | false =>
          rw [b3] at r2
          rw [seq_ret (by rw [ite_t (by rw [or_f r1]; exact r2), ret_false]), back_ret]
          simp only [tableB, b1, b2, b3, Bool.false_and, Bool.and_false]
        | true =>
          rw [b3] at r2
          rw [seq_nx (σ1 := σ) (M1 := M) (by rw [ite_f (by rw [or_f r1]; exact r2), xs_nil])]
          cases b4 : rowsB (formB fDone) 1 d with
          | false =>
            rw [b4] at r3
            rw [seq_ret (ret_s (and_f r3)), back_ret]
            simp only [tableB, b1, b2, b3, b4, Bool.false_and, Bool.and_false]
          | true =>
            rw [b4] at r3
            rw [seq_ret (ret_s (v := .bl (rowsB (formB fAside) 2 a)) (M1 := M) (by rw [and_t r3]; exact r4)), back_ret]
            simp only [tableB, b1, b2, b3, b4, Bool.true_and]
end K3
end K3TES

section K3KGS
set_option Elab.async false
set_option linter.all false
set_option maxRecDepth 100000
set_option maxHeartbeats 0
namespace K3
open Mi
theorem mulOk_r {i j : Int} (h : small j = true) : mulOk i j = true := by simp [mulOk, h]
theorem mulOk_l {i j : Int} (h : small i = true) : mulOk i j = true := by simp [mulOk, h]
theorem small_mod (i m : Int) (h : 0 < m) (h2 : m ≤ 2 ^ 64) : small (i % m) = true := by
  have h3 := Int.emod_nonneg i (by omega : m ≠ 0)
  have h4 := Int.emod_lt_of_pos i h
  unfold small
  exact decide_eq_true (by omega)
theorem op_mul {i j : Int} {M : Store} (h : mulOk i j = true) : op2 .mul (.int i) (.int j) M = .ok (.int (i * j)) M := by simp [op2, h]
theorem op_mod {i j : Int} {M : Store} (h : 0 < j) : op2 .mod (.int i) (.int j) M = .ok (.int (i % j)) M := by simp [op2, h]
theorem op_fdiv {i j : Int} {M : Store} (h : 0 < j) (h2 : mid j = true) : op2 .fdiv (.int i) (.int j) M = .ok (.int (i / j)) M := by simp [op2, h, h2]
theorem op_add {i j : Int} {M : Store} : op2 .add (.int i) (.int j) M = .ok (.int (i + j)) M := rfl
theorem op_sub {i j : Int} {M : Store} : op2 .sub (.int i) (.int j) M = .ok (.int (i - j)) M := rfl
theorem mid_of {j : Int} (h : j.natAbs < 2 ^ 64) : mid j = true := by
  unfold mid
  refine decide_eq_true (Nat.lt_trans h ?_)
  exact Nat.pow_lt_pow_right (by decide) (by decide)
theorem c_mixed (n : Nat) (i : Int) (M : Store) : ∃ r, call pg (n + 1) 11 [.int i] M = .ok (.int r) M := by
  rw [call_s pg n 11 _ M ⟨1, 1, b11⟩ rfl rfl]
  have s1 : small 48271 = true := by decide
  have s2 : small 2147483399 = true := by decide
  have s3 : ∀ x : Int, small (x % 2147483647) = true := fun x => small_mod x _ (by decide) (by decide)
  have m1 : mid 1009 = true := mid_of (by decide)
  have m2 : mid 2003 = true := mid_of (by decide)
  simp [b11, start, op_mul (mulOk_r s1), op_add, bi1, op_mod (j := 2147483647) (by decide), op_fdiv (j := 1009) (by decide) m1, op_mul (mulOk_l (s3 _)), op_mul (mulOk_r s2), op_fdiv (j := 2003) (by decide) m2, op_mod (j := 2147483399) (by decide)]
def wellS (o : Obj) (ns : List Int) (a b c : Int) (T : Store) : Store := o :: .lst (ns.map Val.int) :: .lst [.ref 1, .int a, .int b, .int c] :: T
theorem at_int (ns : List Int) (i : Int) (h0 : 0 ≤ i) (h1 : i < ns.length) : ∃ x, itemAt (ns.map Val.int) i = some (.int x) := by
  have h2 : i.toNat < ns.length := by omega
  refine ⟨ns[i.toNat], ?_⟩
  unfold itemAt place
  rw [if_pos h0, if_pos (by rw [List.length_map]; exact h1)]
  simp [h2]
theorem i4_0 (a b c d : Val) : itemAt [a, b, c, d] 0 = some a := rfl
theorem i4_1 (a b c d : Val) : itemAt [a, b, c, d] 1 = some b := rfl
theorem i4_2 (a b c d : Val) : itemAt [a, b, c, d] 2 = some c := rfl
theorem i4_3 (a b c d : Val) : itemAt [a, b, c, d] 3 = some d := rfl
theorem p4_1 : place 4 1 = some 1 := rfl
theorem p4_2 : place 4 2 = some 2 := rfl
theorem p4_3 : place 4 3 = some 3 := rfl
theorem op_pow {i j : Int} {M : Store} (h : 0 ≤ j) (h2 : j ≤ 1000000) (h3 : small i = true) : op2 .pow (.int i) (.int j) M = .ok (.int (i ^ j.toNat)) M := by simp [op2, h, h2, h3]
theorem c_filled (n : Nat) (o : Obj) (ns : List Int) (a b c : Int) (T : Store) (ha : 0 ≤ a) : ∃ r a' c', 0 ≤ a' ∧ call pg (n + 2) 13 [.ref 2] (wellS o ns a b c T) = .ok (.int r) (wellS o ns a' b c' T) := by
  rw [call_s pg (n + 1) 13 _ _ ⟨1, 2, b13⟩ rfl rfl]
  have s1 : small 69069 = true := by decide
  have s2 : small 7919 = true := by decide
  have s3 : small 10 = true := by decide
  have ha1 : 0 ≤ a + 1 := by omega
  by_cases h : a + 1 ≤ (ns.length : Int)
  · obtain ⟨x, hx⟩ := at_int ns a ha (by omega)
    have e1 : a + 1 - 1 = a := by omega
    obtain ⟨r, hr⟩ := c_mixed n (x + 7919 * (a + 1)) (wellS o ns (a + 1) b ((c * 69069 + x + 1) % 2147483629) T)
    by_cases h2 : (1000000000000000000 : Int) ≤ x
    · refine ⟨x, a + 1, (c * 69069 + x + 1) % 2147483629, ha1, ?_⟩
      simp [b13, start, wellS, ixV, i4_0, i4_1, i4_3, op_add, op_sub, p4_1, p4_3, bi1, lenV, truth, h, e1, hx, op_mul (mulOk_r s1), op_mod (j := 2147483629) (by decide), op_pow (i := 10) (j := 18) (by decide) (by decide) s3, h2]
    · refine ⟨r, a + 1, (c * 69069 + x + 1) % 2147483629, ha1, ?_⟩
      simp only [wellS] at hr
      simp [b13, start, wellS, ixV, i4_0, i4_1, i4_3, op_add, op_sub, p4_1, p4_3, bi1, lenV, truth, h, e1, hx, op_mul (mulOk_r s1), op_mul (mulOk_l s2), op_mod (j := 2147483629) (by decide), op_pow (i := 10) (j := 18) (by decide) (by decide) s3, h2, hr]
  · obtain ⟨r, hr⟩ := c_mixed n (c + 7919 * (a + 1)) (wellS o ns (a + 1) b c T)
    refine ⟨r, a + 1, c, ha1, ?_⟩
    simp only [wellS] at hr
    simp [b13, start, wellS, ixV, i4_0, i4_1, i4_3, op_add, op_sub, p4_1, p4_3, bi1, lenV, truth, h, op_mul (mulOk_l s2), hr]
theorem c_draw (n : Nat) (m : Int) (hm : 0 < m) (hm2 : m < 2 ^ 64) (o : Obj) (ns : List Int) (a b c : Int) (T : Store) (ha : 0 ≤ a) : ∃ r a' b' c', 0 ≤ a' ∧ 0 ≤ r ∧ r < m ∧ call pg (n + 3) 14 [.ref 2, .int m] (wellS o ns a b c T) = .ok (.int r) (wellS o ns a' b' c' T) := by
  rw [call_s pg (n + 2) 14 _ _ ⟨2, 3, b14⟩ rfl rfl]
  have md : mid m = true := mid_of (by omega)
  by_cases hb : b = 0
  · subst hb
    obtain ⟨r, a', c', h1, hr⟩ := c_filled n o ns a 0 c T ha
    refine ⟨r % m, a', r / m, c', h1, Int.emod_nonneg r (by omega), Int.emod_lt_of_pos r hm, ?_⟩
    simp only [wellS] at hr
    simp [b14, start, wellS, ixV, i4_2, noRef, depth, eqV, truth, hr, p4_2, bi1, op_mod hm, op_fdiv hm md]
  · refine ⟨b % m, a, b / m, c, ha, Int.emod_nonneg b (by omega), Int.emod_lt_of_pos b hm, ?_⟩
    simp [b14, start, wellS, ixV, i4_2, noRef, depth, eqV, truth, hb, p4_2, bi1, op_mod hm, op_fdiv hm md]
end K3
end K3KGS

section K3KHS
set_option Elab.async false
set_option linter.all false
set_option maxRecDepth 100000
set_option maxHeartbeats 0
namespace Mi
@[simp] theorem s_join {cf : Cf} {σ : St} {M : Store} (a : E) (l : L) : ev cf (.join a l) σ M = (ev cf a σ M).bind fun x M1 => match x with
    | .str sep => (evL cf l σ M1).bind fun xs M2 => match strsOf xs with
      | some zs => if (zs.map List.length).sum + zs.length * sep.length ≤ LIM then .ok (.str (joined sep zs)) M2 else .bad
      | none => .bad
    | _ => .bad := by rw [ev] <;> rfl
/-- a comprehension's turns that keep an invariant -/
theorem turns_gen {f : Val → Store → Res (Option Val)} {all : List Val} {I : Store → Prop} {R : Store → Store → Prop} {P : Store → Val → Prop} (rr : ∀ M, R M M) (rt : ∀ M M1 M2, R M M1 → R M1 M2 → R M M2) (pm : ∀ M M' y, R M M' → P M y → P M' y) :
    ∀ {xs : List Val} {M : Store}, (∀ x ∈ xs, ∀ M, I M → ∃ y M', f x M = .ok (some y) M' ∧ I M' ∧ R M M' ∧ P M' y) → I M → ∃ ys M', turns f all [] xs M = .ok ys M' ∧ I M' ∧ R M M' ∧ ys.length = xs.length ∧ ∀ y ∈ ys, P M' y
  | [], M, _, i => ⟨[], M, by unfold turns; rw [if_pos (show still M all [] from True.intro)], i, rr M, rfl, fun y hy => by cases hy⟩
  | x :: xs, M, h, i => by
    obtain ⟨y, M1, e1, i1, r1, p1⟩ := h x List.mem_cons_self M i
    obtain ⟨ys, M2, e2, i2, r2, l2, p2⟩ := turns_gen (f := f) (all := all) rr rt pm (fun z hz => h z (List.mem_cons_of_mem _ hz)) i1
    refine ⟨y :: ys, M2, ?_, i2, rt _ _ _ r1 r2, by simp [l2], fun z hz => ?_⟩
    · unfold turns
      rw [if_pos (show still M all [] from True.intro), e1]
      simp only [Res.calm_ok, Res.bind_ok, e2]
    · rcases List.mem_cons.mp hz with rfl | hz
      · exact pm _ _ _ r2 p1
      · exact p2 z hz
/-- [e for i in range(a)] -/
theorem comp_gen {cf : Cf} {σ : St} {M : Store} {own : List Nat} {i : Nat} {a e : E} {k : Int} {I : Store → Prop} {R : Store → Store → Prop} {P : Store → Val → Prop} (rr : ∀ M, R M M) (rt : ∀ M M1 M2, R M M1 → R M1 M2 → R M M2) (pm : ∀ M M' y, R M M' → P M y → P M' y) {M0 : Store} (ha : ev cf a σ M = .ok (.int k) M0) (hk : 0 ≤ k) (hk2 : k ≤ 1000)
    (h : ∀ (j : Int) (M : Store), I M → ∃ y M', ev cf e ((wiped σ own).set i (some (.int j))) M = .ok y M' ∧ I M' ∧ R M M' ∧ P M' y) (hi : I M0) : ∃ ys M', evL cf (.comp own (.one i) (.rng a) .nil e) σ M = .ok ys M' ∧ I M' ∧ R M0 M' ∧ (ys.length : Int) = k ∧ ∀ y ∈ ys, P M' y := by
  obtain ⟨ys, M', e1, i1, r1, l1, p1⟩ := turns_gen (f := lcTurn cf (.one i) .nil e (wiped σ own)) (all := (List.range k.toNat).map fun i => .int (i : Nat)) (xs := (List.range k.toNat).map fun i => .int (i : Nat)) (I := I) (R := R) (P := P) rr rt pm (fun x hx M i => by
    obtain ⟨j, _, rfl⟩ := List.mem_map.mp hx
    obtain ⟨y, M', e1, i1, r1, p1⟩ := h (j : Nat) M i
    refine ⟨y, M', ?_, i1, r1, p1⟩
    unfold lcTurn
    simp only [put, st_nil0, Res.bind_ok, if_true]
    rw [e1]
    rfl) hi
  have hl : (ys.length : Int) = k := by rw [l1, List.length_map, List.length_range]; omega
  refine ⟨ys, M', ?_, i1, r1, hl, p1⟩
  rw [evL_comp, sS_rng, ha]
  have h1 : (decide (k < 2 ^ 62) && decide (-(2 ^ 62) ≤ k)) = true := by
    rw [Bool.and_eq_true]
    exact ⟨decide_eq_true (by omega), decide_eq_true (by omega)⟩
  simp only [Res.bind_ok, h1, if_true, e1, lcEnd, List.nil_append]
  rw [if_pos (by rw [lim_val]; omega)]
end Mi
namespace K3
open Mi
/-- the store, its tail T -/
def S0 (o : Obj) (ns : List Int) (T M : Store) : Prop := ∃ a b c, 0 ≤ a ∧ M = wellS o ns a b c T
theorem draw (n : Nat) (m : Int) (hm : 0 < m) (hm2 : m < 2 ^ 64) {o : Obj} {ns : List Int} {T M : Store} (h : S0 o ns T M) : ∃ r M', 0 ≤ r ∧ r < m ∧ call pg (n + 3) 14 [.ref 2, .int m] M = .ok (.int r) M' ∧ S0 o ns T M' := by
  obtain ⟨a, b, c, ha, rfl⟩ := h
  obtain ⟨r, a', b', c', h1, h2, h3, e⟩ := c_draw n m hm hm2 o ns a b c T ha
  exact ⟨r, _, h2, h3, e, a', b', c', h1, rfl⟩
theorem number (n : Nat) {o : Obj} {ns : List Int} {T M : Store} (h : S0 o ns T M) : ∃ r M', 0 ≤ r ∧ r < 100000000000 ∧ call pg (n + 4) 15 [.ref 2] M = .ok (.int r) M' ∧ S0 o ns T M' := by
  rw [call_s pg (n + 3) 15 _ _ ⟨1, 2, b15⟩ rfl rfl]
  obtain ⟨k, M1, k0, k4, e1, h1⟩ := draw n 4 (by decide) (by decide) h
  have s3 : small 10 = true := by decide
  by_cases hk : k = 3
  · subst hk
    obtain ⟨r, M2, r0, r1, e2, h2⟩ := draw n 100000000000 (by decide) (by decide) h1
    refine ⟨r, M2, r0, r1, ?_, h2⟩
    simp [b15, start, e1, noRef, depth, eqV, truth, op_pow (i := 10) (j := 11) (by decide) (by decide) s3, e2]
  · have hc : k = 0 ∨ k = 1 ∨ k = 2 := by omega
    have hlim : (3 : Nat) ≤ LIM := by rw [lim_val]; omega
    have fin : ∀ m : Int, itemAt [Val.int 3, .int 40, .int 1000000000] k = some (.int m) → 0 < m → m ≤ 1000000000 → ∃ r M', 0 ≤ r ∧ r < 100000000000 ∧ back M (exs ⟨call pg (n + 3), pg.repr, pg.eqx, pg.sub⟩ b15 (start ⟨1, 2, b15⟩ [.ref 2]) M) = .ok (.int r) M' ∧ S0 o ns T M' := fun m hm m0 m1 => by
      obtain ⟨r, M2, r0, r1, e2, h2⟩ := draw n m m0 (by omega) h1
      refine ⟨r, M2, r0, by omega, ?_, h2⟩
      simp [b15, start, e1, noRef, depth, eqV, truth, hk, op_pow (i := 10) (j := 9) (by decide) (by decide) s3, e2, hlim, asInt, hm]
    rcases hc with rfl | rfl | rfl
    · exact fin 3 rfl (by decide) (by decide)
    · exact fin 40 rfl (by decide) (by decide)
    · exact fin 1000000000 rfl (by decide) (by decide)
def signs : List Nat := [32, 33, 34, 35, 36, 38, 39, 40, 41, 42, 43, 44, 45, 46, 47, 48, 49, 50, 51, 52, 53, 54, 55, 56, 57, 58, 59, 60, 61, 62, 63, 64, 65, 66, 67, 68, 69, 70, 71, 72, 73, 74, 75, 76, 77, 78, 79, 80, 81, 82, 83, 84, 85, 86, 87, 88, 89, 90, 91, 92, 93, 94, 95, 96, 97, 98, 99, 100, 101, 102, 103, 104, 105, 106, 107, 108, 109, 110, 111, 112, 113, 114, 115, 116, 117, 118, 119, 120, 121, 122, 123, 124, 125, 126]
theorem c_signs (n : Nat) (M : Store) : call pg (n + 1) 16 [] M = .ok (.str signs) M := by
  rw [call_s pg n 16 _ _ ⟨0, 1, b16⟩ rfl rfl]
  have h : (64 : Nat) + 30 ≤ LIM := by rw [lim_val]; omega
  simp [b16, start, op2, h, signs]
def okc (c : Nat) : Prop := (32 ≤ c ∧ c ≤ 126) ∨ c = 10
theorem signs_at (r : Int) (h0 : 0 ≤ r) (h1 : r < 94) : ∃ c, itemAt signs r = some c ∧ okc c := by
  have h2 : r.toNat < signs.length := by show r.toNat < 94; omega
  refine ⟨signs[r.toNat], ?_, ?_⟩
  · unfold itemAt place
    rw [if_pos h0, if_pos (by show r < ((94 : Nat) : Int); omega)]
    simp [h2]
  · have : ∀ c ∈ signs, 32 ≤ c ∧ c ≤ 126 := by decide +kernel
    exact .inl (this _ (List.getElem_mem h2))
def onec (y : Val) : Prop := ∃ c, y = .str [c] ∧ okc c
theorem strs_of : ∀ {ys : List Val}, (∀ y ∈ ys, onec y) → ∃ zs : List (List Nat), strsOf ys = some zs ∧ zs.length = ys.length ∧ (zs.map List.length).sum = ys.length ∧ (joined [] zs).length = ys.length ∧ ∀ c ∈ joined [] zs, okc c
  | [], _ => ⟨[], rfl, rfl, rfl, rfl, fun c hc => by cases hc⟩
  | y :: ys, h => by
    obtain ⟨c, rfl, hc⟩ := h y List.mem_cons_self
    obtain ⟨zs, e1, e2, e3, e4, e5⟩ := strs_of fun z hz => h z (List.mem_cons_of_mem _ hz)
    have ej : joined [] ([c] :: zs) = c :: joined [] zs := by
      cases zs <;> simp [joined]
    refine ⟨[c] :: zs, by simp [strsOf, e1], by simp [e2], by simp [e3]; omega, by rw [ej]; simp [e4], fun d hd => ?_⟩
    rw [ej] at hd
    rcases List.mem_cons.mp hd with rfl | hd
    · exact hc
    · exact e5 d hd
theorem string (n : Nat) (k : Int) (hk : 0 ≤ k) (hk2 : k ≤ 1000) {o : Obj} {ns : List Int} {T M : Store} (h : S0 o ns T M) : ∃ s M', call pg (n + 4) 17 [.ref 2, .int k] M = .ok (.str s) M' ∧ S0 o ns T M' ∧ (s.length : Int) = k ∧ ∀ c ∈ s, okc c := by
  rw [call_s pg (n + 3) 17 _ _ ⟨2, 4, b17⟩ rfl rfl]
  obtain ⟨ys, M', e1, i1, _, l1, p1⟩ := comp_gen (cf := ⟨call pg (n + 3), pg.repr, pg.eqx, pg.sub⟩) (σ := [some (.ref 2), some (.int k), some (.str signs), none]) (M := M) (own := [3]) (i := 3) (a := .var 1) (e := .ix (.var 2) (.call 14 (.cons (.var 0) (.cons (.cst (.int 94)) .nil)))) (k := k) (I := S0 o ns T) (R := fun _ _ => True) (P := fun _ y => onec y) (fun _ => trivial) (fun _ _ _ _ _ => trivial) (fun _ _ _ _ p => p) (M0 := M) (by simp) hk hk2 (fun j M i => by
    obtain ⟨r, M', r0, r1, e, i'⟩ := draw n 94 (by decide) (by decide) i
    obtain ⟨c, ec, oc⟩ := signs_at r r0 r1
    exact ⟨.str [c], M', by simp [wiped, e, ixV, ec], i', trivial, c, rfl, oc⟩) h
  obtain ⟨zs, z1, z2, z3, z4, z5⟩ := strs_of p1
  refine ⟨joined [] zs, M', ?_, i1, by rw [z4]; exact l1, z5⟩
  have hlim : (zs.map List.length).sum + zs.length * ([] : List Nat).length ≤ LIM := by rw [z3, lim_val]; simp; omega
  simp at hlim
  simp [b17, start, c_signs (n + 2), e1, z1, hlim]
end K3
end K3KHS

section K3KIS
set_option Elab.async false
set_option linter.all false
set_option maxRecDepth 100000
set_option maxHeartbeats 0
namespace K3
open Mi
def abc : List Nat := [97, 98, 99, 100, 101, 102, 103, 104, 105, 106, 107, 108, 109, 110, 111, 112, 113, 114, 115, 116, 117, 118, 119, 120, 121, 122]
theorem abc_at (r : Int) (h0 : 0 ≤ r) (h1 : r < 26) : ∃ c, itemAt abc r = some c ∧ okc c := by
  have h2 : r.toNat < abc.length := by show r.toNat < 26; omega
  refine ⟨abc[r.toNat], ?_, ?_⟩
  · unfold itemAt place
    rw [if_pos h0, if_pos (by show r < ((26 : Nat) : Int); omega)]
    simp [h2]
  · have : ∀ c ∈ abc, 32 ≤ c ∧ c ≤ 126 := by decide +kernel
    exact .inl (this _ (List.getElem_mem h2))
theorem name (n : Nat) {o : Obj} {ns : List Int} {T M : Store} (h : S0 o ns T M) : ∃ s M', call pg (n + 4) 18 [.ref 2] M = .ok (.str s) M' ∧ S0 o ns T M' ∧ (s.length : Int) ≤ 8 ∧ ∀ c ∈ s, okc c := by
  rw [call_s pg (n + 3) 18 _ _ ⟨1, 3, b18⟩ rfl rfl]
  obtain ⟨m1, M1, a0, a1, e1, h1⟩ := draw n 2 (by decide) (by decide) h
  obtain ⟨m2, M2, c0, c1, e2, h2⟩ := draw n 4 (by decide) (by decide) h1
  have tail : ∀ (k : Int) (M3 : Store), 0 ≤ k → k ≤ 8 → S0 o ns T M3 → ∃ s M', Out.on (ev ⟨call pg (n + 3), pg.repr, pg.eqx, pg.sub⟩ (.join (.cst (.str [])) (.comp [2] (.one 2) (.rng (.var 1)) .nil (.ix (.cst (.str abc)) (.call 14 (.cons (.var 0) (.cons (.cst (.int 26)) .nil)))))) [some (.ref 2), some (.int k), none] M3) [some (.ref 2), some (.int k), none] (fun v M1 => .ret v M1) = .ret (.str s) M' ∧ S0 o ns T M' ∧ (s.length : Int) = k ∧ ∀ c ∈ s, okc c := by
    intro k M3 k0 k1 h3
    obtain ⟨ys, M', e3, i3, _, l3, p3⟩ := comp_gen (cf := ⟨call pg (n + 3), pg.repr, pg.eqx, pg.sub⟩) (σ := [some (.ref 2), some (.int k), none]) (M := M3) (own := [2]) (i := 2) (a := .var 1) (e := .ix (.cst (.str abc)) (.call 14 (.cons (.var 0) (.cons (.cst (.int 26)) .nil)))) (k := k) (I := S0 o ns T) (R := fun _ _ => True) (P := fun _ y => onec y) (fun _ => trivial) (fun _ _ _ _ _ => trivial) (fun _ _ _ _ p => p) (M0 := M3) (by simp) k0 (by omega) (fun j M i => by
      obtain ⟨r, M', r0, r1, e, i'⟩ := draw n 26 (by decide) (by decide) i
      obtain ⟨c, ec, oc⟩ := abc_at r r0 r1
      exact ⟨.str [c], M', by simp [wiped, e, ixV, ec], i', trivial, c, rfl, oc⟩) h3
    obtain ⟨zs, z1, z2, z3, z4, z5⟩ := strs_of p3
    refine ⟨joined [] zs, M', ?_, i3, by rw [z4]; exact l3, z5⟩
    have hlim : (zs.map List.length).sum ≤ LIM := by rw [z3, lim_val]; omega
    simp [e3, z1, hlim]
  by_cases hm : m2 = 0
  · subst hm
    obtain ⟨m3, M3, d0, d1, e3, h3⟩ := draw n 8 (by decide) (by decide) h2
    obtain ⟨s, M', e4, h4, l4, q4⟩ := tail (1 + m3) M3 (by omega) (by omega) h3
    refine ⟨s, M', ?_, h4, by omega, q4⟩
    simp only [abc] at e4
    simp [-s_join, b18, start, e1, e2, op_add, noRef, depth, eqV, truth, e3, e4]
  · obtain ⟨s, M', e4, h4, l4, q4⟩ := tail (1 + m1) M2 (by omega) (by omega) h2
    refine ⟨s, M', ?_, h4, by omega, q4⟩
    simp only [abc] at e4
    simp [-s_join, b18, start, e1, e2, op_add, noRef, depth, eqV, truth, hm, e4]
/-! ### what is drawn -/
def fit : Nat → Nat → Store → Val → Prop
  | 0, _, _, _ => False
  | n + 1, k, T, v => match v with
    | .non => True
    | .bl _ => True
    | .int i => -(200000000000 + (k : Int)) ≤ i ∧ i ≤ 200000000000 + (k : Int)
    | .str s => s.length ≤ 110 + k ∧ ∀ c ∈ s, okc c
    | .tup xs => xs.length ≤ 4 + k ∧ ∀ x ∈ xs, fit n k T x
    | .frz _ => False
    | .fn _ => False
    | .ref j => 3 ≤ j ∧ match T[j - 3]? with
      | some (.lst xs) => xs.length ≤ 4 + k ∧ ∀ x ∈ xs, fit n k T x
      | some (.dic kvs) => kvs.length ≤ 2 ∧ ∀ p ∈ kvs, fit n k T p.1 ∧ fit n k T p.2
      | some (.exv _) => True
      | _ => False
theorem fit_more {n m k l : Nat} {T X : Store} {v : Val} (hn : n ≤ m) (hk : k ≤ l) (h : fit n k T v) : fit m l (T ++ X) v := by
  induction n generalizing m v with
  | zero => exact h.elim
  | succ n ih =>
    cases m with
    | zero => omega
    | succ m =>
      have ih' : ∀ v, fit n k T v → fit m l (T ++ X) v := fun v h => ih (by omega) h
      cases v with
      | non => trivial
      | bl b => trivial
      | int i => exact ⟨by have := h.1; omega, by have := h.2; omega⟩
      | str s => exact ⟨by have := h.1; omega, h.2⟩
      | tup xs => exact ⟨by have := h.1; omega, fun x hx => ih' x (h.2 x hx)⟩
      | frz xs => exact h.elim
      | fn xs => exact h.elim
      | ref j =>
        obtain ⟨h3, h⟩ := h
        refine ⟨h3, ?_⟩
        cases e : T[j - 3]? with
        | none => rw [e] at h; exact h.elim
        | some ob =>
          have hl : j - 3 < T.length := (List.getElem?_eq_some_iff.mp e).1
          rw [List.getElem?_append_left hl, e]
          rw [e] at h
          cases ob with
          | lst xs => exact ⟨by have := h.1; omega, fun x hx => ih' x (h.2 x hx)⟩
          | dic kvs => exact ⟨h.1, fun p hp => ⟨ih' _ (h.2 p hp).1, ih' _ (h.2 p hp).2⟩⟩
          | exv c => trivial
          | dit c => exact h.elim
theorem fit_le {n m k l : Nat} {T : Store} {v : Val} (hn : n ≤ m) (hk : k ≤ l) (h : fit n k T v) : fit m l T v := by
  have := fit_more (X := []) hn hk h
  rwa [List.append_nil] at this
theorem S0.inj {o : Obj} {ns : List Int} {T T' M : Store} (h : S0 o ns T M) (h' : S0 o ns T' M) : T = T' := by
  obtain ⟨a, b, c, _, rfl⟩ := h
  obtain ⟨a', b', c', _, e⟩ := h'
  simp [wellS] at e
  exact e.2
theorem fit_in {n k : Nat} {o : Obj} {ns : List Int} {T M : Store} {v : Val} (h : S0 o ns T M) (f : fit n k T v) : inM M v := by
  cases n with
  | zero => exact f.elim
  | succ n =>
    cases v with
    | ref j =>
      obtain ⟨h3, f⟩ := f
      obtain ⟨a, b, c, _, rfl⟩ := h
      show j < (wellS o ns a b c T).length
      cases e : T[j - 3]? with
      | none => rw [e] at f; exact f.elim
      | some ob =>
        have := (List.getElem?_eq_some_iff.mp e).1
        simp [wellS]
        omega
    | _ => trivial
theorem fit_wf {n k : Nat} {o : Obj} {ns : List Int} {T M : Store} {v : Val} (h : S0 o ns T M) (f : fit n k T v) : wfT M v := by
  refine ⟨fit_in h f, fun xs e y hy => ?_⟩
  subst e
  cases n with
  | zero => exact f.elim
  | succ n => exact fit_in h (f.2 y hy)
end K3
end K3KIS

section K3KJS
set_option Elab.async false
set_option linter.all false
set_option maxRecDepth 100000
set_option maxHeartbeats 0
namespace K3
open Mi
def tl : Ss → Ss
  | .cons _ r => r
  | .nil => .nil
def anyRest : Ss := tl (tl b19)
theorem eq_int {a b : Int} {M : Store} : cmpV .eq (.int a) (.int b) M = some (a == b) := by simp [noRef, depth, eqV]
theorem le_int {a b : Int} {M : Store} : cmpV .le (.int a) (.int b) M = some (decide (a ≤ b)) := rfl
/-- later: the same with a longer tail -/
def Lat (o : Obj) (ns : List Int) (M M' : Store) : Prop := ∀ X, S0 o ns X M → ∃ Y, S0 o ns (X ++ Y) M'
theorem Lat.refl {o : Obj} {ns : List Int} (M : Store) : Lat o ns M M := fun X h => ⟨[], by rw [List.append_nil]; exact h⟩
theorem Lat.trans {o : Obj} {ns : List Int} (M M1 M2 : Store) (a : Lat o ns M M1) (b : Lat o ns M1 M2) : Lat o ns M M2 := fun X h => by
  obtain ⟨Y, hY⟩ := a X h
  obtain ⟨Z, hZ⟩ := b _ hY
  exact ⟨Y ++ Z, by rw [← List.append_assoc]; exact hZ⟩
def fitM (n k : Nat) (o : Obj) (ns : List Int) (M : Store) (v : Val) : Prop := ∃ X, S0 o ns X M ∧ fit n k X v
theorem fitM.mono {n k : Nat} {o : Obj} {ns : List Int} (M M' : Store) (y : Val) (l : Lat o ns M M') (h : fitM n k o ns M y) : fitM n k o ns M' y := by
  obtain ⟨X, h1, h2⟩ := h
  obtain ⟨Y, h3⟩ := l X h1
  exact ⟨X ++ Y, h3, fit_more (Nat.le_refl _) (Nat.le_refl _) h2⟩
theorem fitM.at {n k : Nat} {o : Obj} {ns : List Int} {T M : Store} {v : Val} (h : fitM n k o ns M v) (s : S0 o ns T M) : fit n k T v := by
  obtain ⟨X, h1, h2⟩ := h
  rw [← h1.inj s]; exact h2
theorem S0.len {o : Obj} {ns : List Int} {T M : Store} (h : S0 o ns T M) : M.length = 3 + T.length := by
  obtain ⟨a, b, c, _, rfl⟩ := h
  simp [wellS]; omega
theorem S0.app {o : Obj} {ns : List Int} {T M : Store} (h : S0 o ns T M) (x : Obj) : S0 o ns (T ++ [x]) (M ++ [x]) := by
  obtain ⟨a, b, c, ha, rfl⟩ := h
  exact ⟨a, b, c, ha, rfl⟩
theorem S0.get {o : Obj} {ns : List Int} {T M : Store} (h : S0 o ns T M) (x : Obj) : (M ++ [x])[M.length]? = some x := by simp
theorem T_last (T : Store) (x : Obj) : (T ++ [x])[(3 + T.length) - 3]? = some x := by
  have : 3 + T.length - 3 = T.length := by omega
  rw [this]; simp
/-- what a generator tells -/
def Gives (n k : Nat) (o : Obj) (ns : List Int) (T : Store) (r : Res Val) : Prop := ∃ v X M', r = .ok v M' ∧ S0 o ns (T ++ X) M' ∧ fit n k (T ++ X) v
def GivesO (n k : Nat) (o : Obj) (ns : List Int) (T : Store) (r : Out) : Prop := ∃ v X M', r = .ret v M' ∧ S0 o ns (T ++ X) M' ∧ fit n k (T ++ X) v
theorem Gives.of {n k : Nat} {o : Obj} {ns : List Int} {T M : Store} {v : Val} {r : Res Val} (e : r = .ok v M) (h : S0 o ns T M) (f : fit n k T v) : Gives n k o ns T r := ⟨v, [], M, e, by rw [List.append_nil]; exact h, by rw [List.append_nil]; exact f⟩
theorem GivesO.of {n k : Nat} {o : Obj} {ns : List Int} {T M : Store} {v : Val} {r : Out} (e : r = .ret v M) (h : S0 o ns T M) (f : fit n k T v) : GivesO n k o ns T r := ⟨v, [], M, e, by rw [List.append_nil]; exact h, by rw [List.append_nil]; exact f⟩
theorem any_rest (n d D E : Nat) (hE : 0 < d → D + 1 ≤ E) (o : Obj) (ns : List Int) (ih : ∀ {T M : Store}, 0 < d → S0 o ns T M → Gives D 0 o ns T (call pg (n + 4) 19 [.ref 2, .int ((d : Int) - 1)] M)) (q : Int) (q0 : 0 ≤ q) (q1 : q < 12) (qd : d = 0 → q < 6) {T M : Store} (h : S0 o ns T M) :
    GivesO (E + 1) 0 o ns T (exs ⟨call pg (n + 4), pg.repr, pg.eqx, pg.sub⟩ anyRest [some (.ref 2), some (.int d), some (.int q), none, none] M) := by
  have hc : q = 0 ∨ q = 1 ∨ q = 2 ∨ q = 3 ∨ q = 4 ∨ q = 5 ∨ 6 ≤ q := by omega
  rcases hc with rfl | rfl | rfl | rfl | rfl | rfl | hq
  · obtain ⟨r, M1, r0, r1, e, h1⟩ := draw (n + 1) 120 (by decide) (by decide) h
    exact GivesO.of (v := .int (r - 20)) (M := M1) (by simp [anyRest, tl, b19, eq_int, truth, e, op_sub]) h1 ⟨by omega, by omega⟩
  · obtain ⟨r, M1, r0, r1, e, h1⟩ := number n h
    exact GivesO.of (v := .int (-1 - r)) (M := M1) (by simp [anyRest, tl, b19, eq_int, truth, e, op_sub]) h1 ⟨by omega, by omega⟩
  · obtain ⟨r, M1, r0, r1, e, h1⟩ := draw (n + 1) 2 (by decide) (by decide) h
    exact GivesO.of (v := .bl (r == 1)) (M := M1) (by simp [anyRest, tl, b19, eq_int, truth, e]) h1 trivial
  · exact GivesO.of (v := .non) (M := M) (by simp [anyRest, tl, b19, eq_int, truth]) h trivial
  · obtain ⟨r, M1, r0, r1, e, h1⟩ := draw (n + 1) 11 (by decide) (by decide) h
    obtain ⟨s, M2, e2, h2, l2, p2⟩ := string n r r0 (by omega) h1
    exact GivesO.of (v := .str s) (M := M2) (by simp [anyRest, tl, b19, eq_int, truth, e, e2]) h2 ⟨by omega, p2⟩
  · obtain ⟨s, M1, e, h1, l1, p1⟩ := name n h
    obtain ⟨r, M2, r0, r1, e2, h2⟩ := draw (n + 1) 4 (by decide) (by decide) h1
    have hl : (4 : Nat) ≤ LIM := by rw [lim_val]; omega
    have fin : ∀ t : List Nat, t.length ≤ 1 → (∀ c ∈ t, okc c) → itemAt [Val.str [], .str [10], .str [65], .str [48]] r = some (.str t) → GivesO (E + 1) 0 o ns T (exs ⟨call pg (n + 4), pg.repr, pg.eqx, pg.sub⟩ anyRest [some (.ref 2), some (.int d), some (.int 5), none, none] M) := fun t ht hc hi => by
      have hs : s.length + t.length ≤ LIM := by rw [lim_val]; omega
      refine GivesO.of (v := .str (s ++ t)) (M := M2) (by simp [anyRest, tl, b19, eq_int, truth, e, e2, hl, asInt, hi, op2, hs]) h2 ⟨by rw [List.length_append]; omega, fun c hc2 => ?_⟩
      rcases List.mem_append.mp hc2 with hc2 | hc2
      · exact p1 c hc2
      · exact hc c hc2
    have hr : r = 0 ∨ r = 1 ∨ r = 2 ∨ r = 3 := by omega
    rcases hr with rfl | rfl | rfl | rfl
    · exact fin [] (by simp) (by simp) rfl
    · exact fin [10] (by simp) (fun c hc => .inr (by simpa using hc)) rfl
    · exact fin [65] (by simp) (fun c hc => .inl (by have : c = 65 := by simpa using hc
                                                     omega)) rfl
    · exact fin [48] (by simp) (fun c hc => .inl (by have : c = 48 := by simpa using hc
                                                     omega)) rfl
  · have hd : 0 < d := by
      rcases Nat.eq_zero_or_pos d with z | z
      · have := qd z; omega
      · exact z
    obtain ⟨e', rfl⟩ : ∃ e, E = e + 1 := ⟨E - 1, by have := hE hd; omega⟩
    have hDe : D ≤ e' := by have := hE hd; omega
    obtain ⟨k, M1, k0, k1, e, h1⟩ := draw (n + 1) 4 (by decide) (by decide) h
    obtain ⟨ys, M2, e2, i2, lat, l2, p2⟩ := comp_gen (cf := ⟨call pg (n + 4), pg.repr, pg.eqx, pg.sub⟩) (σ := [some (.ref 2), some (.int d), some (.int q), none, none]) (M := M) (own := [4]) (i := 4) (a := .call 14 (.cons (.var 0) (.cons (.cst (.int 4)) .nil))) (e := .call 19 (.cons (.var 0) (.cons (.op .sub (.var 1) (.cst (.int 1))) .nil))) (k := k) (I := fun M => ∃ X, S0 o ns X M) (R := Lat o ns) (P := fitM D 0 o ns) Lat.refl Lat.trans fitM.mono (M0 := M1) (by simp [e]) k0 (by omega) (fun j M ⟨X, i⟩ => by
      obtain ⟨v, Y, M', e, i', f⟩ := ih hd i
      refine ⟨v, M', by simp [wiped, op_sub, e], ⟨_, i'⟩, fun Z hZ => ⟨Y, ?_⟩, ⟨_, i', f⟩⟩
      rw [hZ.inj i]; exact i') ⟨T, h1⟩
    obtain ⟨Y, hY⟩ := lat T h1
    have fy : ∀ y ∈ ys, fit D 0 (T ++ Y) y := fun y hy => (p2 y hy).at hY
    have hl4 : ys.length ≤ 4 := by omega
    have hm := hY.len
    have h3 := hY.app (.lst ys)
    have fr : ∀ m Z, D ≤ m → fit (m + 1) 0 (T ++ Y ++ [Obj.lst ys] ++ Z) (.ref M2.length) := fun m Z hm2 => by
      have f1 : fit (m + 1) 0 (T ++ Y ++ [Obj.lst ys]) (.ref M2.length) := by
        refine ⟨by omega, ?_⟩
        rw [hm, T_last]
        exact ⟨hl4, fun x hx => fit_more hm2 (Nat.le_refl _) (fy x hx)⟩
      exact fit_more (Nat.le_refl _) (Nat.le_refl _) f1
    have n0 : (q == 0) = false := by rw [beq_eq_false_iff_ne]; omega
    have n1 : (q == 1) = false := by rw [beq_eq_false_iff_ne]; omega
    have n2 : (q == 2) = false := by rw [beq_eq_false_iff_ne]; omega
    have n3 : (q == 3) = false := by rw [beq_eq_false_iff_ne]; omega
    have n4 : (q == 4) = false := by rw [beq_eq_false_iff_ne]; omega
    have n5 : (q == 5) = false := by rw [beq_eq_false_iff_ne]; omega
    by_cases h8 : q ≤ 8
    · refine ⟨.tup ys, Y ++ [Obj.lst ys], M2 ++ [Obj.lst ys], ?_, by rw [← List.append_assoc]; exact h3, ?_⟩
      · simp [anyRest, tl, b19, eq_int, le_int, truth, n0, n1, n2, n3, n4, n5, e2, h8, bi1]
      · rw [← List.append_assoc]
        exact ⟨hl4, fun x hx => fit_more (by omega) (Nat.le_refl _) (fy x hx)⟩
    · by_cases h9 : q = 9
      · subst h9
        refine ⟨.ref M2.length, Y ++ [Obj.lst ys], M2 ++ [Obj.lst ys], ?_, by rw [← List.append_assoc]; exact h3, by rw [← List.append_assoc]; have := fr (e' + 1) [] (by omega); rwa [List.append_nil] at this⟩
        simp [anyRest, tl, b19, eq_int, le_int, truth, e2]
      · by_cases h10 : q = 10
        · subst h10
          have h4 := h3.app (.dic [(.str [97], .ref M2.length), (.int 1, .non)])
          have hm3 := h3.len
          refine ⟨.ref (M2 ++ [Obj.lst ys]).length, Y ++ [Obj.lst ys] ++ [Obj.dic [(.str [97], .ref M2.length), (.int 1, .non)]], M2 ++ [Obj.lst ys] ++ [Obj.dic [(.str [97], .ref M2.length), (.int 1, .non)]], ?_, by rw [← List.append_assoc, ← List.append_assoc]; exact h4, ?_⟩
          · simp [anyRest, tl, b19, eq_int, le_int, truth, e2, pairUp, keysOk, Mi.keyV, keyE]
          · rw [← List.append_assoc, ← List.append_assoc]
            refine ⟨by omega, ?_⟩
            rw [hm3, T_last]
            refine ⟨by simp, fun p hp => ?_⟩
            rcases List.mem_cons.mp hp with rfl | hp
            · exact ⟨⟨by simp, fun c hc => .inl (by have : c = 97 := by simpa using hc
                                                    omega)⟩, fr e' _ hDe⟩
            · rw [List.mem_singleton.mp hp]
              exact ⟨⟨by omega, by omega⟩, trivial⟩
        · have h11 : q = 11 := by omega
          subst h11
          have h4 := h3.app (.exv 0)
          have hm3 := h3.len
          refine ⟨.ref (M2 ++ [Obj.lst ys]).length, Y ++ [Obj.lst ys] ++ [Obj.exv 0], M2 ++ [Obj.lst ys] ++ [Obj.exv 0], ?_, by rw [← List.append_assoc, ← List.append_assoc]; exact h4, ?_⟩
          · simp [anyRest, tl, b19, eq_int, le_int, truth, e2]
          · rw [← List.append_assoc, ← List.append_assoc]
            refine ⟨by omega, ?_⟩
            rw [hm3, T_last]
            trivial
end K3
end K3KJS

section K3KKS
set_option Elab.async false
set_option linter.all false
set_option maxRecDepth 100000
set_option maxHeartbeats 0
namespace K3
open Mi
theorem any (o : Obj) (ns : List Int) : ∀ (d n : Nat) {T M : Store}, S0 o ns T M → Gives (2 * d + 1) 0 o ns T (call pg (n + 5 + d) 19 [.ref 2, .int (d : Nat)] M)
  | d, n, T, M, h => by
    have e0 : n + 5 + d = (n + d + 4) + 1 := by omega
    rw [e0, call_s pg (n + d + 4) 19 _ _ ⟨2, 5, b19⟩ rfl rfl]
    obtain ⟨k, M1, k0, k1, e1, h1⟩ := draw (n + d + 1) 12 (by decide) (by decide) h
    have ih : ∀ {T M : Store}, 0 < d → S0 o ns T M → Gives (2 * d - 1) 0 o ns T (call pg (n + d + 4) 19 [.ref 2, .int ((d : Int) - 1)] M) := fun {T M} hd h => by
      obtain ⟨c, rfl⟩ : ∃ c, d = c + 1 := ⟨d - 1, by omega⟩
      have := any o ns c n h
      have e2 : n + 5 + c = n + (c + 1) + 4 := by omega
      have e3 : ((c + 1 : Nat) : Int) - 1 = (c : Nat) := by omega
      have e4 : 2 * (c + 1) - 1 = 2 * c + 1 := by omega
      rw [e3, e4, ← e2]
      exact this
    have rest : ∀ (q : Int) (M : Store), 0 ≤ q → q < 12 → (d = 0 → q < 6) → S0 o ns T M → GivesO (2 * d + 1) 0 o ns T (exs ⟨call pg (n + d + 4), pg.repr, pg.eqx, pg.sub⟩ anyRest [some (.ref 2), some (.int (d : Nat)), some (.int q), none, none] M) := fun q M q0 q1 qd h =>
      any_rest (n + d) d (2 * d - 1) (2 * d) (fun hd => by omega) o ns ih q q0 q1 qd h
    have eb : b19 = .cons (.set 2 (.call 14 (.cons (.var 0) (.cons (.cst (.int 12)) .nil)))) (.cons (.ite (.cmp .eq (.var 1) (.cst (.int 0))) (.cons (.set 2 (.op .mod (.bi .int (.var 2)) (.cst (.int 6)))) .nil) .nil) anyRest) := rfl
    by_cases hd : d = 0
    · subst hd
      obtain ⟨v, X, M', e2, h2, f⟩ := rest (k % 6) M1 (Int.emod_nonneg k (by decide)) (by have := Int.emod_lt_of_pos k (b := 6) (by decide); omega) (fun _ => Int.emod_lt_of_pos k (by decide)) h1
      refine ⟨v, X, M', ?_, h2, f⟩
      simp only [eb]
      simp [start, e1, eq_int, truth, bi1, op_mod (j := 6) (by decide)] at e2 ⊢
      rw [e2]
      rfl
    · obtain ⟨v, X, M', e2, h2, f⟩ := rest k M1 k0 k1 (fun z => absurd z hd) h1
      refine ⟨v, X, M', ?_, h2, f⟩
      have hz : ((d : Int) == 0) = false := by rw [beq_eq_false_iff_ne]; omega
      simp only [eb]
      simp [start, e1, eq_int, truth, hz]
      rw [e2]
      rfl
end K3
end K3KKS

section K3KLS
set_option Elab.async false
set_option linter.all false
set_option maxRecDepth 100000
set_option maxHeartbeats 0
namespace K3
open Mi
mutual
def nodesV : Val → Int
  | .tup xs => 1 + nodesL xs
  | _ => 1
def nodesL : List Val → Int
  | [] => 0
  | x :: xs => nodesV x + nodesL xs
end
theorem nodesL_sum : ∀ xs : List Val, (xs.map nodesV).sum = nodesL xs
  | [] => rfl
  | x :: xs => by simp [nodesL, nodesL_sum xs]
theorem ints_map {xs : List Val} (p : Val → Int) : intsOf (xs.map fun x => .int (p x)) = some (xs.map p) := by
  induction xs with
  | nil => rfl
  | cons x xs ih => simp [intsOf, ih]
theorem c_nodes (o : Obj) (ns : List Int) : ∀ (n m k : Nat) {T M : Store} {x : Val}, S0 o ns T M → fit n k T x → k ≤ 1000 → call pg (m + n) 20 [x] M = .ok (.int (nodesV x)) M
  | 0, m, k, T, M, x, h, f, _ => f.elim
  | n + 1, m, k, T, M, x, h, f, hk => by
    have e0 : m + (n + 1) = (m + n) + 1 := by omega
    rw [e0, call_s pg (m + n) 20 _ _ ⟨1, 2, b20⟩ rfl rfl]
    have hi := fit_in h f
    cases x with
    | tup xs =>
      have hl : xs.length ≤ LIM := by have := f.1; rw [lim_val]; omega
      have e1 := comp_pure (cf := ⟨call pg (m + n), pg.repr, pg.eqx, pg.sub⟩) (σ := [some (.tup xs), none]) (M := M) (own := [1]) (i := 1) (a := .var 0) (e := .call 20 (.cons (.var 1) .nil)) (v := .tup xs) (xs := xs) (fun x => .int (nodesV x)) (by simp) rfl hl (fun y hy => by
        simp [wiped, c_nodes o ns n m k h (f.2 y hy) hk])
      simp [b20, start, isOf_tuple hi, isT, truth, e1, bil1, ints_map, nodesL_sum, op_add, nodesV]
    | _ => simp [b20, start, isOf_tuple hi, isT, truth, nodesV]
theorem up_ok {c : Nat} (h : okc c) : okc (up c) := by
  unfold okc up at *
  split <;> omega
theorem itemAt7 (a b c d e f g : Val) : itemAt [a, b, c, d, e, f, g] 0 = some a ∧ itemAt [a, b, c, d, e, f, g] 1 = some b ∧ itemAt [a, b, c, d, e, f, g] 2 = some c ∧ itemAt [a, b, c, d, e, f, g] 3 = some d ∧ itemAt [a, b, c, d, e, f, g] 4 = some e ∧ itemAt [a, b, c, d, e, f, g] 5 = some f ∧ itemAt [a, b, c, d, e, f, g] 6 = some g := ⟨rfl, rfl, rfl, rfl, rfl, rfl, rfl⟩
theorem sev {q : Int} (h0 : 1 ≤ q) (h1 : q < 8) : q = 1 ∨ q = 2 ∨ q = 3 ∨ q = 4 ∨ q = 5 ∨ q = 6 ∨ q = 7 := by omega
theorem lim7 : (7 : Nat) ≤ LIM := by rw [lim_val]; omega
theorem lim2 : (2 : Nat) ≤ LIM := by rw [lim_val]; omega
theorem lim1 : (1 : Nat) ≤ LIM := by rw [lim_val]; omega
def chRest : Ss := tl (tl b21)
theorem GivesO.app {n k : Nat} {o : Obj} {ns : List Int} {T M : Store} {v : Val} {r : Out} (x : Obj) (e : r = .ret v (M ++ [x])) (h : S0 o ns T M) (f : fit n k (T ++ [x]) v) : GivesO n k o ns T r := ⟨v, [x], M ++ [x], e, h.app x, f⟩
theorem ch_flag (n a k : Nat) {o : Obj} {ns : List Int} {T M : Store} (q : Int) (h0 : 1 ≤ q) (h1 : q < 8) (h : S0 o ns T M) (x : Val) (hx : (∃ b, x = .bl b) ∨ x = .non) : GivesO (a + 3) (k + 1) o ns T (exs ⟨call pg n, pg.repr, pg.eqx, pg.sub⟩ chRest [some x, some (.ref 2), some (.int q), none] M) := by
  have hm := h.len
  have key : ∀ v : Val, itemAt [Val.int 0, .int 1, .tup [], .str [], .tup [.int 0, .int 0], .ref M.length, .tup [.non]] (q - 1) = some v → fit (a + 3) (k + 1) (T ++ [Obj.lst []]) v → GivesO (a + 3) (k + 1) o ns T (exs ⟨call pg n, pg.repr, pg.eqx, pg.sub⟩ chRest [some x, some (.ref 2), some (.int q), none] M) := fun v hv fv => by
    refine GivesO.app (.lst []) ?_ h fv
    rcases hx with ⟨b, rfl⟩ | rfl
    · simp [chRest, tl, b21, isOf_bool (M := M) (x := .bl b) trivial, isB, truth, lim7, lim2, lim1, asInt, op_sub, hv]
    · simp [chRest, tl, b21, isOf_bool (M := M) (x := .non) trivial, isB, truth, isNon, lim7, lim2, lim1, asInt, op_sub, hv]
  rcases sev h0 h1 with rfl | rfl | rfl | rfl | rfl | rfl | rfl
  · exact key _ rfl ⟨by omega, by omega⟩
  · exact key _ rfl ⟨by omega, by omega⟩
  · exact key _ rfl ⟨by simp, fun x hx => by cases hx⟩
  · exact key _ rfl ⟨by simp, fun x hx => by cases hx⟩
  · exact key _ rfl ⟨by simp; omega, fun x hx => by
      have : x = .int 0 := by simpa using hx
      subst this
      exact ⟨by omega, by omega⟩⟩
  · refine key _ rfl ⟨by omega, ?_⟩
    rw [hm, T_last]
    exact ⟨by simp, fun x hx => by cases hx⟩
  · exact key _ rfl ⟨by simp; omega, fun x hx => by
      have : x = .non := by simpa using hx
      subst this
      trivial⟩
theorem ch_int (n a k : Nat) {o : Obj} {ns : List Int} {T M : Store} (q : Int) (h0 : 1 ≤ q) (h1 : q < 8) (h : S0 o ns T M) (i : Int) (hi : fit (a + 1) k T (.int i)) : GivesO (a + 3) (k + 1) o ns T (exs ⟨call pg n, pg.repr, pg.eqx, pg.sub⟩ chRest [some (.int i), some (.ref 2), some (.int q), none] M) := by
  obtain ⟨i1, i2⟩ := hi
  have key : ∀ v : Val, itemAt [Val.int (i + 1), .int (i - 1), .int (-i), .bl (decide (1 ≤ i)), .int 0, .non, .tup [.int i]] (q - 1) = some v → fit (a + 3) (k + 1) T v → GivesO (a + 3) (k + 1) o ns T (exs ⟨call pg n, pg.repr, pg.eqx, pg.sub⟩ chRest [some (.int i), some (.ref 2), some (.int q), none] M) := fun v hv fv => by
    refine GivesO.of (M := M) ?_ h fv
    simp [chRest, tl, b21, isOf_bool (M := M) (x := .int i) trivial, isOf_int (M := M) (x := .int i) trivial, isB, isW, truth, isNon, lim7, lim1, asInt, op_sub, op_add, hv]
  rcases sev h0 h1 with rfl | rfl | rfl | rfl | rfl | rfl | rfl
  · exact key _ rfl ⟨by omega, by omega⟩
  · exact key _ rfl ⟨by omega, by omega⟩
  · exact key _ rfl ⟨by omega, by omega⟩
  · exact key _ rfl trivial
  · exact key _ rfl ⟨by omega, by omega⟩
  · exact key _ rfl trivial
  · exact key _ rfl ⟨by simp; omega, fun x hx => by
      have : x = .int i := by simpa using hx
      subst this
      exact ⟨by omega, by omega⟩⟩
theorem cut_from {α : Type} (xs : List α) : cut xs (some 1) none = xs.tail := by
  cases xs with
  | nil => rfl
  | cons x r =>
    have e : (min 1 (r.length + 1)) = 1 := by omega
    simp [cut, bound, e]
theorem ch_str (n a k : Nat) {o : Obj} {ns : List Int} {T M : Store} (q : Int) (h0 : 1 ≤ q) (h1 : q < 8) (h : S0 o ns T M) (s : List Nat) (hs : fit (a + 1) k T (.str s)) (hk : k ≤ 1000) : GivesO (a + 3) (k + 1) o ns T (exs ⟨call pg n, pg.repr, pg.eqx, pg.sub⟩ chRest [some (.str s), some (.ref 2), some (.int q), none] M) := by
  obtain ⟨s1, s2⟩ := hs
  have hm := h.len
  have l1 : s.length + 1 ≤ LIM := by rw [lim_val]; omega
  have l2 : 1 + s.length ≤ LIM := by rw [lim_val]; omega
  have l3 : s.length ≤ 5592405 := by omega
  have key : ∀ v : Val, itemAt [Val.str (s ++ [97]), .str s.tail, .str (s.map up), .str (32 :: s), .str [], .str (s ++ [10]), .ref M.length] (q - 1) = some v → fit (a + 3) (k + 1) (T ++ [Obj.lst [.str s]]) v → GivesO (a + 3) (k + 1) o ns T (exs ⟨call pg n, pg.repr, pg.eqx, pg.sub⟩ chRest [some (.str s), some (.ref 2), some (.int q), none] M) := fun v hv fv => by
    refine GivesO.app (.lst [.str s]) ?_ h fv
    simp [chRest, tl, b21, isOf_bool (M := M) (x := .str s) trivial, isOf_int (M := M) (x := .str s) trivial, isOf_str (M := M) (x := .str s) trivial, isB, isW, isS, truth, isNon, lim7, lim1, asInt, op_sub, op2, l1, l2, l3, slV, cut_from, mt1, hv]
  rcases sev h0 h1 with rfl | rfl | rfl | rfl | rfl | rfl | rfl
  · exact key _ rfl ⟨by simp; omega, fun c hc => by
      rcases List.mem_append.mp hc with hc | hc
      · exact s2 c hc
      · have : c = 97 := by simpa using hc
        exact .inl (by omega)⟩
  · exact key _ rfl ⟨by simp; omega, fun c hc => s2 c (List.mem_of_mem_tail hc)⟩
  · exact key _ rfl ⟨by simp; omega, fun c hc => by
      obtain ⟨d, hd, rfl⟩ := List.mem_map.mp hc
      exact up_ok (s2 d hd)⟩
  · exact key _ rfl ⟨by simp; omega, fun c hc => by
      rcases List.mem_cons.mp hc with rfl | hc
      · exact .inl (by omega)
      · exact s2 c hc⟩
  · exact key _ rfl ⟨by simp, fun c hc => by cases hc⟩
  · exact key _ rfl ⟨by simp; omega, fun c hc => by
      rcases List.mem_append.mp hc with hc | hc
      · exact s2 c hc
      · exact .inr (by simpa using hc)⟩
  · refine key _ rfl ⟨by omega, ?_⟩
    rw [hm, T_last]
    exact ⟨by simp; omega, fun x hx => by
      have : x = .str s := by simpa using hx
      subst this
      exact ⟨by omega, s2⟩⟩
end K3
end K3KLS

section K3KMS
set_option Elab.async false
set_option linter.all false
set_option maxRecDepth 100000
set_option maxHeartbeats 0
namespace Mi
@[simp] theorem sl_list {cf : Cf} {σ : St} {M : Store} (a : E) : evL cf (.list a) σ M = (ev cf a σ M).bind fun x M1 => match x with
    | .tup xs => .ok xs M1
    | .frz xs => .ok xs M1
    | .ref n => match M1[n]? with
      | some (.lst xs) => .ok xs M1
      | _ => .bad
    | _ => .bad := by rw [evL] <;> rfl
end Mi
namespace K3
open Mi
theorem cut_mem {α : Type} {xs : List α} {lo hi : Option Int} {x : α} (h : x ∈ cut xs lo hi) : x ∈ xs := List.mem_of_mem_drop (List.mem_of_mem_take h)
theorem cut_len {α : Type} (xs : List α) (lo hi : Option Int) : (cut xs lo hi).length ≤ xs.length := by
  unfold cut
  rw [List.length_take, List.length_drop]
  omega
theorem cut_one {α : Type} (xs : List α) : (cut xs none (some 1)).length ≤ 1 := by
  unfold cut
  rw [List.length_take]
  simp [bound]
  omega
theorem ch_tup (n a k : Nat) {o : Obj} {ns : List Int} {T M : Store} (q : Int) (h0 : 1 ≤ q) (h1 : q < 8) (h : S0 o ns T M) (xs : List Val) (hx : fit (a + 1) k T (.tup xs)) (hk : k ≤ 1000) : GivesO (a + 3) (k + 1) o ns T (exs ⟨call pg n, pg.repr, pg.eqx, pg.sub⟩ chRest [some (.tup xs), some (.ref 2), some (.int q), none] M) := by
  obtain ⟨x1, x2⟩ := hx
  have hm := h.len
  have ht : xs.tail.length ≤ xs.length := by simp
  have ht2 : xs.tail.length + 1 ≤ xs.length + 1 := by omega
  have c1 := cut_one xs
  have l1 : xs.tail.length + (cut xs none (some 1)).length ≤ LIM := by rw [lim_val]; omega
  have l2 : (cut xs none (some 1)).length + xs.length ≤ LIM := by rw [lim_val]; omega
  have l3 : xs.length + 1 ≤ LIM := by rw [lim_val]; omega
  have l1' : xs.length - 1 + (cut xs none (some 1)).length ≤ LIM := by rw [lim_val]; omega
  let X : List Obj := [.lst xs, .lst [.tup xs.tail, .tup (cut xs none (some (-1))), .tup (xs.tail ++ cut xs none (some 1)), .tup (cut xs none (some 1) ++ xs), .tup (xs ++ [.non]), .ref M.length, .non]]
  have g1 : (M ++ [Obj.lst xs] ++ [Obj.lst [.tup xs.tail, .tup (cut xs none (some (-1))), .tup (xs.tail ++ cut xs none (some 1)), .tup (cut xs none (some 1) ++ xs), .tup (xs ++ [.non]), .ref M.length, .non]])[M.length + 1]? = some (Obj.lst [.tup xs.tail, .tup (cut xs none (some (-1))), .tup (xs.tail ++ cut xs none (some 1)), .tup (cut xs none (some 1) ++ xs), .tup (xs ++ [.non]), .ref M.length, .non]) := by
    have : M.length + 1 = (M ++ [Obj.lst xs]).length := by simp
    rw [this]; simp
  have fitT : ∀ ys : List Val, ys.length ≤ 4 + (k + 1) → (∀ y ∈ ys, y ∈ xs ∨ y = .non) → fit (a + 3) (k + 1) (T ++ X) (.tup ys) := fun ys hl hy => ⟨hl, fun y hm => by
    rcases hy y hm with hy | rfl
    · exact fit_more (by omega) (by omega) (x2 y hy)
    · trivial⟩
  have key : ∀ v : Val, itemAt [Val.tup xs.tail, .tup (cut xs none (some (-1))), .tup (xs.tail ++ cut xs none (some 1)), .tup (cut xs none (some 1) ++ xs), .tup (xs ++ [.non]), .ref M.length, .non] (q - 1) = some v → fit (a + 3) (k + 1) (T ++ X) v → GivesO (a + 3) (k + 1) o ns T (exs ⟨call pg n, pg.repr, pg.eqx, pg.sub⟩ chRest [some (.tup xs), some (.ref 2), some (.int q), none] M) := fun v hv fv => by
    refine ⟨v, X, M ++ [Obj.lst xs] ++ [Obj.lst [.tup xs.tail, .tup (cut xs none (some (-1))), .tup (xs.tail ++ cut xs none (some 1)), .tup (cut xs none (some 1) ++ xs), .tup (xs ++ [.non]), .ref M.length, .non]], ?_, ?_, fv⟩
    · simp only [List.append_assoc, List.cons_append, List.nil_append] at g1
      simp [chRest, tl, b21, isOf_bool (M := M) (x := .tup xs) trivial, isOf_int (M := M) (x := .tup xs) trivial, isOf_str (M := M) (x := .tup xs) trivial, isOf_tuple (M := M) (x := .tup xs) trivial, isB, isW, isS, isT, truth, isNon, lim7, lim1, asInt, op_sub, op2, l1, l1', l2, l3, slV, cut_from, ixV, g1, hv]
    · have := (h.app (.lst xs)).app (.lst [.tup xs.tail, .tup (cut xs none (some (-1))), .tup (xs.tail ++ cut xs none (some 1)), .tup (cut xs none (some 1) ++ xs), .tup (xs ++ [.non]), .ref M.length, .non])
      rw [List.append_assoc] at this
      exact this
  rcases sev h0 h1 with rfl | rfl | rfl | rfl | rfl | rfl | rfl
  · exact key _ rfl (fitT _ (by omega) fun y hy => .inl (List.mem_of_mem_tail hy))
  · exact key _ rfl (fitT _ (by have := cut_len xs none (some (-1)); omega) fun y hy => .inl (cut_mem hy))
  · refine key _ rfl (fitT _ (by simp; omega) fun y hy => ?_)
    rcases List.mem_append.mp hy with hy | hy
    · exact .inl (List.mem_of_mem_tail hy)
    · exact .inl (cut_mem hy)
  · refine key _ rfl (fitT _ (by simp; omega) fun y hy => ?_)
    rcases List.mem_append.mp hy with hy | hy
    · exact .inl (cut_mem hy)
    · exact .inl hy
  · refine key _ rfl (fitT _ (by simp; omega) fun y hy => ?_)
    rcases List.mem_append.mp hy with hy | hy
    · exact .inl hy
    · exact .inr (by simpa using hy)
  · refine key _ rfl ⟨by omega, ?_⟩
    have e : (T ++ X)[M.length - 3]? = some (.lst xs) := by
      have : M.length - 3 = T.length := by omega
      rw [this]
      simp [X]
    rw [e]
    exact ⟨by omega, fun y hy => fit_more (by omega) (by omega) (x2 y hy)⟩
  · exact key _ rfl trivial
end K3
end K3KMS

section K3KNS
set_option Elab.async false
set_option linter.all false
set_option maxRecDepth 100000
set_option maxHeartbeats 0
namespace K3
open Mi
theorem ch_ref (n a k : Nat) {o : Obj} {ns : List Int} {T M : Store} (q : Int) (h : S0 o ns T M) (j : Nat) (hx : fit (a + 1) k T (.ref j)) : GivesO (a + 3) (k + 1) o ns T (exs ⟨call pg n, pg.repr, pg.eqx, pg.sub⟩ chRest [some (.ref j), some (.ref 2), some (.int q), none] M) := by
  have hi : inM M (.ref j) := fit_in h hx
  refine GivesO.of (M := M) ?_ h (fit_le (by omega) (by omega) hx)
  simp [chRest, tl, b21, isOf_bool hi, isOf_int hi, isOf_str hi, isOf_tuple hi, isB, isW, isS, isT, truth, isNon]
theorem changed (n a k : Nat) {o : Obj} {ns : List Int} {T M : Store} (h : S0 o ns T M) (x : Val) (hx : fit (a + 1) k T x) (hk : k ≤ 1000) : Gives (a + 3) (k + 1) o ns T (call pg (n + 7) 21 [x, .ref 2] M) := by
  rw [call_s pg (n + 6) 21 _ _ ⟨2, 4, b21⟩ rfl rfl]
  obtain ⟨q, M1, q0, q1, e1, h1⟩ := draw (n + 3) 8 (by decide) (by decide) h
  have eb : b21 = .cons (.set 2 (.call 14 (.cons (.var 1) (.cons (.cst (.int 8)) .nil)))) (.cons (.ite (.cmp .eq (.var 2) (.cst (.int 0))) (.cons (.ret (.call 19 (.cons (.var 1) (.cons (.cst (.int 1)) .nil)))) .nil) .nil) chRest) := rfl
  by_cases hq : q = 0
  · subst hq
    obtain ⟨v, X, M2, e2, h2, f2⟩ := any o ns 1 n h1
    refine ⟨v, X, M2, ?_, h2, fit_le (by omega) (by omega) f2⟩
    have e3 : call pg (n + 6) 19 [.ref 2, .int 1] M1 = .ok v M2 := e2
    simp only [eb]
    simp [start, e1, eq_int, truth, e3]
  · have r : GivesO (a + 3) (k + 1) o ns T (exs ⟨call pg (n + 6), pg.repr, pg.eqx, pg.sub⟩ chRest [some x, some (.ref 2), some (.int q), none] M1) := by
      cases x with
      | non => exact ch_flag (n + 6) a k q (by omega) q1 h1 _ (.inr rfl)
      | bl b => exact ch_flag (n + 6) a k q (by omega) q1 h1 _ (.inl ⟨b, rfl⟩)
      | int i => exact ch_int (n + 6) a k q (by omega) q1 h1 i hx
      | str s => exact ch_str (n + 6) a k q (by omega) q1 h1 s hx hk
      | tup xs => exact ch_tup (n + 6) a k q (by omega) q1 h1 xs hx hk
      | frz xs => exact hx.elim
      | fn xs => exact hx.elim
      | ref j => exact ch_ref (n + 6) a k q h1 j hx
    obtain ⟨v, X, M2, e2, h2, f2⟩ := r
    refine ⟨v, X, M2, ?_, h2, f2⟩
    have hz : (q == 0) = false := by rw [beq_eq_false_iff_ne]; exact hq
    simp only [eb]
    simp [start, e1, eq_int, truth, hz]
    rw [e2]
    rfl
end K3
end K3KNS

section K3KOS
set_option Elab.async false
set_option linter.all false
set_option maxRecDepth 100000
set_option maxHeartbeats 0
namespace Mi
theorem rounds_nil {f : Val → St → Store → Out} {all : List Val} {σ : St} {M : Store} : rounds f all [] [] σ M = .nx σ M := by unfold rounds; rw [if_pos (show still M all [] from True.intro)]
theorem rounds_cons {f : Val → St → Store → Out} {all : List Val} {x : Val} {xs : List Val} {σ : St} {M : Store} : rounds f all [] (x :: xs) σ M = (f x σ M).turn fun σ1 M1 => rounds f all [] xs σ1 M1 := by
  conv => lhs; unfold rounds
  rw [if_pos (show still M all [] from True.intro)]
theorem x_loop {cf : Cf} {σ : St} {M : Store} (t : Tg) (src : Src) (b : Ss) : ex cf (.loop t src b) σ M = Out.on (evS cf src σ M) σ fun p M1 => rounds (fun x σ1 M2 => match put t x σ1 with
      | some σ2 => exs cf b σ2 M2
      | none => .bad) p.1 p.2 p.1 σ M1 := by rw [ex] <;> rfl
theorem rng_ok {cf : Cf} {a : E} {σ : St} {M M0 : Store} {n : Nat} (ha : ev cf a σ M = .ok (.int (n : Nat)) M0) (h : n ≤ 100000) : evS cf (.rng a) σ M = .ok ((List.range n).map fun i => .int (i : Nat), []) M0 := by
  obtain ⟨k, hk⟩ : ∃ k : Int, k = (n : Nat) := ⟨_, rfl⟩
  rw [← hk] at ha
  have e : k.toNat = n := by omega
  have h1 : 0 ≤ k := by omega
  have h2 : k ≤ 100000 := by omega
  clear hk
  subst e
  rw [sS_rng, ha]
  have h1 : (decide (k < 2 ^ 62) && decide (-(2 ^ 62) ≤ k)) = true := by
    rw [Bool.and_eq_true]
    exact ⟨decide_eq_true (by omega), decide_eq_true (by omega)⟩
  simp only [Res.bind_ok, h1, if_true]
end Mi
namespace K3
open Mi
theorem cut_to {α : Type} (xs : List α) (j : Nat) : (cut xs none (some (j : Int))).length ≤ j := by
  unfold cut
  rw [List.length_take]
  have : bound xs.length xs.length (some (j : Int)) ≤ j := by
    simp only [bound]
    rw [if_neg (by omega)]
    omega
  omega
theorem cut_fr {α : Type} (xs : List α) (j : Nat) (h : j < xs.length) : (cut xs (some ((j : Int) + 1)) none).length ≤ xs.length - (j + 1) := by
  unfold cut
  rw [List.length_take]
  have : bound xs.length 0 (some ((j : Int) + 1)) = j + 1 := by
    simp only [bound]
    rw [if_neg (by omega)]
    omega
  rw [this]
  simp only [bound]
  omega
theorem at_nat {α : Type} (xs : List α) (j : Nat) (h : j < xs.length) : itemAt xs (j : Int) = some xs[j] := by
  unfold itemAt place
  rw [if_pos (by omega), if_pos (by omega)]
  simp [h]
theorem nodes_one (v : Val) : 1 ≤ nodesV v := by
  have pos : ∀ xs : List Val, (∀ x ∈ xs, 1 ≤ nodesV x) → 0 ≤ nodesL xs := fun xs => by
    induction xs with
    | nil => intro _; simp [nodesL]
    | cons x xs ih => intro h; have := h x List.mem_cons_self; have := ih fun y hy => h y (List.mem_cons_of_mem _ hy); simp only [nodesL]; omega
  match v with
  | .tup xs =>
    have : ∀ x ∈ xs, 1 ≤ nodesV x := fun x hx => nodes_one x
    have := pos xs this
    simp only [nodesV]; omega
  | .non => simp [nodesV]
  | .bl _ => simp [nodesV]
  | .int _ => simp [nodesV]
  | .str _ => simp [nodesV]
  | .frz _ => simp [nodesV]
  | .fn _ => simp [nodesV]
  | .ref _ => simp [nodesV]
termination_by sizeOf v
def spB : Ss := match b22 with
  | .cons _ (.cons _ (.cons (.loop _ _ b) _)) => b
  | _ => .nil
noncomputable def spF (F : Nat) (x : Val) (σ1 : St) (M2 : Store) : Out := match put (.one 3) x σ1 with
  | some σ2 => exs ⟨call pg F, pg.repr, pg.eqx, pg.sub⟩ spB σ2 M2
  | none => .bad
theorem spF_eq (F : Nat) (x : Val) (σ : St) (M : Store) : spF F x σ M = exs ⟨call pg F, pg.repr, pg.eqx, pg.sub⟩ spB (σ.set 3 (some x)) M := rfl
theorem spoilt_loop (n m k F : Nat) (hF : F = m + n + 8) {o : Obj} {ns : List Int} {T M : Store} (h : S0 o ns T M) (hk : k ≤ 1000) (xs : List Val) (hx : fit (n + 1) k T (.tup xs))
    (ih : ∀ x ∈ xs, ∀ at_ : Int, 0 ≤ at_ → at_ < nodesV x → Gives (n + 2) (k + 1) o ns T (call pg F 22 [x, .int at_, .ref 2] M)) (all : List Val) :
    ∀ (d j : Nat) (a : Int) (s3 s4 : Option Val), j + d = xs.length → 0 ≤ a → a < nodesL (xs.drop j) →
      GivesO (n + 3) (k + 1) o ns T (rounds (spF F) all [] ((List.range' j d).map fun i => Val.int (i : Nat)) [some (.tup xs), some (.int a), some (.ref 2), s3, s4] M)
  | 0, j, a, s3, s4, hj, h0, h1 => by
    rw [List.drop_eq_nil_of_le (by omega)] at h1
    simp only [nodesL] at h1
    omega
  | d + 1, j, a, s3, s4, hj, h0, h1 => by
    have hjl : j < xs.length := by omega
    rw [List.drop_eq_getElem_cons hjl] at h1
    simp only [nodesL] at h1
    have hm : xs[j] ∈ xs := List.getElem_mem hjl
    have en := c_nodes o ns n (m + 8) k h (hx.2 _ hm) hk
    have eF : m + 8 + n = F := by omega
    rw [eF] at en
    rw [List.range'_succ, List.map_cons, rounds_cons, spF_eq]
    have hxl := hx.1
    have ct := cut_to xs j
    have cf := cut_fr xs j hjl
    by_cases hlt : a < nodesV xs[j]
    · obtain ⟨v, X, M', e, h', f'⟩ := ih _ hm a h0 hlt
      have l1 : (cut xs none (some (j : Int))).length + 1 ≤ LIM := by rw [lim_val]; omega
      have l2 : (cut xs none (some (j : Int))).length + 1 + (cut xs (some ((j : Int) + 1)) none).length ≤ LIM := by rw [lim_val]; omega
      refine ⟨.tup ((cut xs none (some (j : Int)) ++ [v]) ++ cut xs (some ((j : Int) + 1)) none), X, M', ?_, h', ?_⟩
      · simp [spB, b22, ixV, at_nat xs j hjl, en, hlt, truth, slV, e, op2, lim1, l1, l2]
      · refine ⟨by simp; omega, fun y hy => ?_⟩
        rcases List.mem_append.mp hy with hy | hy
        · rcases List.mem_append.mp hy with hy | hy
          · exact fit_more (by omega) (by omega) (hx.2 y (cut_mem hy))
          · rw [List.mem_singleton.mp hy]; exact f'
        · exact fit_more (by omega) (by omega) (hx.2 y (cut_mem hy))
    · have := spoilt_loop n m k F hF h hk xs hx ih all d (j + 1) (a - nodesV xs[j]) (some (.int (j : Nat))) (some (.int (nodesV xs[j]))) (by omega) (by omega) (by omega)
      obtain ⟨v, X, M', e, h', f'⟩ := this
      refine ⟨v, X, M', ?_, h', f'⟩
      simp [spB, b22, ixV, at_nat xs j hjl, en, hlt, truth, op_sub]
      exact e
theorem sp_loop (F : Nat) (σ : St) (M : Store) (xs : List Val) (h0 : σ[0]? = some (some (.tup xs))) (hl : xs.length ≤ 100000) : ex ⟨call pg F, pg.repr, pg.eqx, pg.sub⟩ (.loop (.one 3) (.rng (.bi .len (.var 0))) spB) σ M = rounds (spF F) ((List.range xs.length).map fun i => Val.int (i : Nat)) [] ((List.range xs.length).map fun i => Val.int (i : Nat)) σ M := by
  have e : (fun (x : Val) (σ1 : St) (M2 : Store) => match put (.one 3) x σ1 with
      | some σ2 => exs ⟨call pg F, pg.repr, pg.eqx, pg.sub⟩ spB σ2 M2
      | none => .bad) = spF F := by
    funext x σ1 M2
    simp only [put, spF_eq]
  have ea : ev ⟨call pg F, pg.repr, pg.eqx, pg.sub⟩ (.bi .len (.var 0)) σ M = .ok (.int (xs.length : Nat)) M := by
    rw [s_bi, s_var, h0]
    simp only [Res.bind_ok, bi1, lenV, Option.map_some, ofOpt_some]
  rw [x_loop, rng_ok ea hl, Out.on_ok, e]
theorem eb22 : b22 = .cons (.ite (.cmp .eq (.var 1) (.cst (.int 0))) (.cons (.ret (.call 21 (.cons (.var 0) (.cons (.var 2) .nil)))) .nil) .nil) (.cons (.set 1 (.op .sub (.var 1) (.cst (.int 1)))) (.cons (.loop (.one 3) (.rng (.bi .len (.var 0))) spB) (.cons (.ret (.var 0)) .nil))) := rfl
theorem sp_zero (o : Obj) (ns : List Int) (n F k : Nat) {T M : Store} (x : Val) (h : Gives (n + 3) (k + 1) o ns T (call pg F 21 [x, .ref 2] M)) : Gives (n + 3) (k + 1) o ns T (call pg (F + 1) 22 [x, .int 0, .ref 2] M) := by
  rw [call_s pg F 22 _ _ ⟨3, 5, b22⟩ rfl rfl]
  obtain ⟨v, X, M', e, h', f'⟩ := h
  refine ⟨v, X, M', ?_, h', f'⟩
  simp only [eb22]
  simp [start, eq_int, truth, e]
noncomputable def spCf (F : Nat) : Cf := ⟨call pg F, pg.repr, pg.eqx, pg.sub⟩
theorem sp_run (cf : Cf) {M : Store} (xs : List Val) (a : Int) (ha : a ≠ 0) (r : Out) (e : ex cf (.loop (.one 3) (.rng (.bi .len (.var 0))) spB) [some (.tup xs), some (.int (a - 1)), some (.ref 2), none, none] M = r) : exs cf b22 [some (.tup xs), some (.int a), some (.ref 2), none, none] M = r.seq fun σ1 M1 => exs cf (.cons (.ret (.var 0)) .nil) σ1 M1 := by
  have hz : (a == 0) = false := by rw [beq_eq_false_iff_ne]; exact ha
  rw [eb22, xs_cons, x_ite]
  have e1 : ev cf (.cmp .eq (.var 1) (.cst (.int 0))) [some (.tup xs), some (.int a), some (.ref 2), none, none] M = .ok (.bl false) M := by
    simp [eq_int, hz]
  rw [e1, Out.on_ok]
  have e2 : truth M (.bl false) = some false := rfl
  rw [e2, ofOpt_some, Out.on_ok, if_neg (by decide), xs_nil, Out.seq_nx, xs_cons]
  have e3 : ex cf (.set 1 (.op .sub (.var 1) (.cst (.int 1)))) [some (.tup xs), some (.int a), some (.ref 2), none, none] M = .nx [some (.tup xs), some (.int (a - 1)), some (.ref 2), none, none] M := by
    simp [op_sub]
  rw [e3, Out.seq_nx, xs_cons, e]
theorem sp_more (F : Nat) {M M' : Store} (xs : List Val) (a : Int) (ha : a ≠ 0) (hl : xs.length ≤ 100000) (v : Val) (e : rounds (spF F) ((List.range xs.length).map fun i => Val.int (i : Nat)) [] ((List.range xs.length).map fun i => Val.int (i : Nat)) [some (.tup xs), some (.int (a - 1)), some (.ref 2), none, none] M = .ret v M') : call pg (F + 1) 22 [.tup xs, .int a, .ref 2] M = .ok v M' := by
  have e2 := sp_loop F [some (.tup xs), some (.int (a - 1)), some (.ref 2), none, none] M xs rfl hl
  rw [e] at e2
  have e3 := sp_run _ xs a ha _ e2
  rw [Out.seq_ret] at e3
  have e4 : start ⟨3, 5, b22⟩ [.tup xs, .int a, .ref 2] = [some (.tup xs), some (.int a), some (.ref 2), none, none] := rfl
  rw [call_s pg F 22 _ _ ⟨3, 5, b22⟩ rfl rfl, e4, e3, back_ret]
theorem spoilt_step (o : Obj) (ns : List Int) (n m k : Nat) {T M : Store} (x : Val) (a : Int) (h : S0 o ns T M) (f : fit (n + 1) k T x) (h0 : 0 ≤ a) (h1 : a < nodesV x) (hk : k ≤ 1000)
    (ih : ∀ y b, fit n k T y → 0 ≤ b → b < nodesV y → Gives (n + 2) (k + 1) o ns T (call pg (m + n + 8) 22 [y, .int b, .ref 2] M)) : Gives (n + 3) (k + 1) o ns T (call pg (m + n + 8 + 1) 22 [x, .int a, .ref 2] M) := by
  by_cases ha : a = 0
  · subst ha
    have e := changed (m + n + 1) n k h x f hk
    have e2 : m + n + 1 + 7 = m + n + 8 := by omega
    rw [e2] at e
    exact sp_zero o ns n (m + n + 8) k x e
  · have : ∃ xs, x = .tup xs := by
      cases x with
      | tup xs => exact ⟨xs, rfl⟩
      | _ => simp [nodesV] at h1; omega
    obtain ⟨xs, rfl⟩ := this
    simp only [nodesV] at h1
    have hl := f.1
    obtain ⟨v, X, M', e, h', f'⟩ := spoilt_loop n m k (m + n + 8) rfl h hk xs f (fun y hy b b0 b1 => ih y b (f.2 y hy) b0 b1) ((List.range xs.length).map fun i => Val.int (i : Nat)) xs.length 0 (a - 1) none none (by omega) (by omega) (by rw [List.drop_zero]; omega)
    rw [← List.range_eq_range'] at e
    exact ⟨v, X, M', sp_more (m + n + 8) xs a ha (by omega) v e, h', f'⟩
theorem spoilt (o : Obj) (ns : List Int) (n m k : Nat) {T M : Store} (x : Val) (a : Int) (h : S0 o ns T M) (f : fit n k T x) (h0 : 0 ≤ a) (h1 : a < nodesV x) (hk : k ≤ 1000) : Gives (n + 2) (k + 1) o ns T (call pg (m + n + 8) 22 [x, .int a, .ref 2] M) := by
  induction n generalizing x a with
  | zero => exact f.elim
  | succ n ih =>
    exact spoilt_step o ns n m k x a h f h0 h1 hk fun y b fy b0 b1 => ih y b fy b0 b1
end K3
end K3KOS

section K3WAS
set_option Elab.async false
set_option linter.all false
set_option maxRecDepth 100000
set_option maxHeartbeats 0
namespace K3
open Mi
/-! ### how many nodes -/
def cnt : Nat → Store → Val → Nat
  | 0, _, _ => 1
  | n + 1, T, v => match v with
    | .tup xs => 1 + (xs.map (cnt n T)).sum
    | .ref j => match T[j - 3]? with
      | some (.lst xs) => 1 + (xs.map (cnt n T)).sum
      | some (.dic kvs) => 1 + (kvs.map fun p => cnt n T p.1 + cnt n T p.2).sum
      | _ => 1
    | _ => 1
theorem sum_congr {α : Type} {f g : α → Nat} : ∀ {xs : List α}, (∀ x ∈ xs, f x = g x) → (xs.map f).sum = (xs.map g).sum
  | [], _ => rfl
  | x :: xs, h => by
    simp only [List.map_cons, List.sum_cons]
    rw [h x List.mem_cons_self, sum_congr fun y hy => h y (List.mem_cons_of_mem _ hy)]
theorem sum_le {α : Type} {f : α → Nat} {b : Nat} : ∀ {xs : List α}, (∀ x ∈ xs, f x ≤ b) → (xs.map f).sum ≤ xs.length * b
  | [], _ => by simp
  | x :: xs, h => by
    have h1 := h x List.mem_cons_self
    have h2 := sum_le fun y hy => h y (List.mem_cons_of_mem _ hy)
    simp only [List.map_cons, List.sum_cons, List.length_cons, Nat.add_mul, Nat.one_mul]
    omega
theorem sum_app {α : Type} {f : α → Nat} (xs ys : List α) : ((xs ++ ys).map f).sum = (xs.map f).sum + (ys.map f).sum := by
  rw [List.map_append, List.sum_append]
theorem sum_sub {α : Type} {f : α → Nat} {xs ys : List α} (h : List.Sublist ys xs) : (ys.map f).sum ≤ (xs.map f).sum := by
  induction h with
  | slnil => exact Nat.le_refl _
  | cons a _ ih => simp only [List.map_cons, List.sum_cons]; omega
  | cons_cons a _ ih => simp only [List.map_cons, List.sum_cons]; omega
theorem cut_sub' {α : Type} (xs : List α) (lo hi : Option Int) : List.Sublist (cut xs lo hi) xs := (List.take_sublist _ _).trans (List.drop_sublist _ _)
theorem cnt_more {n m k : Nat} {T X : Store} {v : Val} (hn : n ≤ m) (h : fit n k T v) : cnt m (T ++ X) v = cnt n T v := by
  induction n generalizing m v with
  | zero => exact h.elim
  | succ n ih =>
    cases m with
    | zero => omega
    | succ m =>
      have ih' : ∀ v, fit n k T v → cnt m (T ++ X) v = cnt n T v := fun v h => ih (by omega) h
      cases v with
      | tup xs =>
        simp only [cnt]
        rw [sum_congr fun x hx => ih' x (h.2 x hx)]
      | ref j =>
        obtain ⟨h3, h⟩ := h
        simp only [cnt]
        cases e : T[j - 3]? with
        | none => rw [e] at h; exact h.elim
        | some ob =>
          have hl : j - 3 < T.length := (List.getElem?_eq_some_iff.mp e).1
          rw [List.getElem?_append_left hl, e]
          rw [e] at h
          cases ob with
          | lst xs =>
            simp only
            rw [sum_congr fun x hx => ih' x (h.2 x hx)]
          | dic kvs =>
            simp only
            rw [sum_congr (f := fun p : Val × Val => cnt m (T ++ X) p.1 + cnt m (T ++ X) p.2) (g := fun p : Val × Val => cnt n T p.1 + cnt n T p.2) (xs := kvs) fun p hp => by rw [ih' _ (h.2 p hp).1, ih' _ (h.2 p hp).2]]
          | exv c => rfl
          | dit c => rfl
      | _ => rfl
theorem cnt_le' {n m k : Nat} {T : Store} {v : Val} (hn : n ≤ m) (h : fit n k T v) : cnt m T v = cnt n T v := by
  have := cnt_more (X := []) hn h
  rwa [List.append_nil] at this
def nbN : Nat → Nat → Nat
  | 0, _ => 1
  | n + 1, k => 1 + (4 + k) * nbN n k
theorem nbN_pos : ∀ n k, 1 ≤ nbN n k
  | 0, k => by simp [nbN]
  | n + 1, k => by simp only [nbN]; omega
theorem cnt_fit : ∀ {n k : Nat} {T : Store} {v : Val}, fit n k T v → cnt n T v ≤ nbN n k
  | 0, k, T, v, h => h.elim
  | n + 1, k, T, v, h => by
    have hp := nbN_pos n k
    cases v with
    | tup xs =>
      simp only [cnt, nbN]
      have h1 := sum_le (f := cnt n T) (b := nbN n k) fun x hx => cnt_fit (h.2 x hx)
      have h2 : xs.length * nbN n k ≤ (4 + k) * nbN n k := Nat.mul_le_mul_right _ h.1
      omega
    | ref j =>
      obtain ⟨h3, h⟩ := h
      simp only [cnt, nbN]
      cases e : T[j - 3]? with
      | none => rw [e] at h; exact h.elim
      | some ob =>
        rw [e] at h
        cases ob with
        | lst xs =>
          have h1 := sum_le (f := cnt n T) (b := nbN n k) fun x hx => cnt_fit (h.2 x hx)
          have h2 : xs.length * nbN n k ≤ (4 + k) * nbN n k := Nat.mul_le_mul_right _ h.1
          simp only
          omega
        | dic kvs =>
          have h1 := sum_le (f := fun p : Val × Val => cnt n T p.1 + cnt n T p.2) (b := nbN n k + nbN n k) (xs := kvs) fun p hp => Nat.add_le_add (cnt_fit (h.2 p hp).1) (cnt_fit (h.2 p hp).2)
          have h2 : kvs.length * (nbN n k + nbN n k) ≤ 2 * (nbN n k + nbN n k) := Nat.mul_le_mul_right _ h.1
          have h3 : 4 * nbN n k ≤ (4 + k) * nbN n k := Nat.mul_le_mul_right _ (by omega)
          simp only
          omega
        | exv c => simp only; omega
        | dit c => exact h.elim
    | _ =>
      simp only [cnt, nbN]
      omega
theorem cnt_pos (n : Nat) (T : Store) (v : Val) : 1 ≤ cnt n T v := by
  cases n with
  | zero => simp [cnt]
  | succ n =>
    simp only [cnt]
    split
    · omega
    · split
      · omega
      · omega
      · exact Nat.le_refl _
    · exact Nat.le_refl _
def GivesW (n k w : Nat) (o : Obj) (ns : List Int) (T : Store) (r : Res Val) : Prop := ∃ v X M', r = .ok v M' ∧ S0 o ns (T ++ X) M' ∧ fit n k (T ++ X) v ∧ cnt n (T ++ X) v ≤ w
def GivesOW (n k w : Nat) (o : Obj) (ns : List Int) (T : Store) (r : Out) : Prop := ∃ v X M', r = .ret v M' ∧ S0 o ns (T ++ X) M' ∧ fit n k (T ++ X) v ∧ cnt n (T ++ X) v ≤ w
theorem GivesOW.of {n k w : Nat} {o : Obj} {ns : List Int} {T M : Store} {v : Val} {r : Out} (e : r = .ret v M) (h : S0 o ns T M) (f : fit n k T v) (c : cnt n T v ≤ w) : GivesOW n k w o ns T r := ⟨v, [], M, e, by rw [List.append_nil]; exact h, by rw [List.append_nil]; exact f, by rw [List.append_nil]; exact c⟩
theorem GivesOW.app {n k w : Nat} {o : Obj} {ns : List Int} {T M : Store} {v : Val} {r : Out} (x : Obj) (e : r = .ret v (M ++ [x])) (h : S0 o ns T M) (f : fit n k (T ++ [x]) v) (c : cnt n (T ++ [x]) v ≤ w) : GivesOW n k w o ns T r := ⟨v, [x], M ++ [x], e, h.app x, f, c⟩
theorem Gives.w {n k : Nat} {o : Obj} {ns : List Int} {T : Store} {r : Res Val} (h : Gives n k o ns T r) : GivesW n k (nbN n k) o ns T r := by
  obtain ⟨v, X, M', e, h', f⟩ := h
  exact ⟨v, X, M', e, h', f, cnt_fit f⟩
theorem cnt_ref {n : Nat} {T : Store} {xs : List Val} {j : Nat} (h : T[j - 3]? = some (.lst xs)) : cnt (n + 1) T (.ref j) = 1 + (xs.map (cnt n T)).sum := by
  simp only [cnt, h]
theorem cnt_tup {n : Nat} {T : Store} {xs : List Val} : cnt (n + 1) T (.tup xs) = 1 + (xs.map (cnt n T)).sum := rfl
end K3
end K3WAS

section K3WLS
set_option Elab.async false
set_option linter.all false
set_option maxRecDepth 100000
set_option maxHeartbeats 0
namespace K3
open Mi
theorem chw_flag (n a k : Nat) {o : Obj} {ns : List Int} {T M : Store} (q : Int) (h0 : 1 ≤ q) (h1 : q < 8) (h : S0 o ns T M) (x : Val) (hx : (∃ b, x = .bl b) ∨ x = .non) : GivesOW (a + 3) (k + 1) 100 o ns T (exs ⟨call pg n, pg.repr, pg.eqx, pg.sub⟩ chRest [some x, some (.ref 2), some (.int q), none] M) := by
  have hm := h.len
  have key : ∀ v : Val, itemAt [Val.int 0, .int 1, .tup [], .str [], .tup [.int 0, .int 0], .ref M.length, .tup [.non]] (q - 1) = some v → fit (a + 3) (k + 1) (T ++ [Obj.lst []]) v → cnt (a + 3) (T ++ [Obj.lst []]) v ≤ 100 → GivesOW (a + 3) (k + 1) 100 o ns T (exs ⟨call pg n, pg.repr, pg.eqx, pg.sub⟩ chRest [some x, some (.ref 2), some (.int q), none] M) := fun v hv fv cv => by
    refine GivesOW.app (.lst []) ?_ h fv cv
    rcases hx with ⟨b, rfl⟩ | rfl
    · simp [chRest, tl, b21, isOf_bool (M := M) (x := .bl b) trivial, isB, truth, lim7, lim2, lim1, asInt, op_sub, hv]
    · simp [chRest, tl, b21, isOf_bool (M := M) (x := .non) trivial, isB, truth, isNon, lim7, lim2, lim1, asInt, op_sub, hv]
  rcases sev h0 h1 with rfl | rfl | rfl | rfl | rfl | rfl | rfl
  · exact key _ rfl ⟨by omega, by omega⟩ (by simp [cnt])
  · exact key _ rfl ⟨by omega, by omega⟩ (by simp [cnt])
  · exact key _ rfl ⟨by simp, fun x hx => by cases hx⟩ (by simp [cnt])
  · exact key _ rfl ⟨by simp, fun x hx => by cases hx⟩ (by simp [cnt])
  · exact key _ rfl ⟨by simp; omega, fun x hx => by
      have : x = .int 0 := by simpa using hx
      subst this
      exact ⟨by omega, by omega⟩⟩ (by simp [cnt])
  · refine key _ rfl ⟨by omega, ?_⟩ (by rw [cnt_ref (by rw [hm]; exact T_last _ _)]; simp)
    rw [hm, T_last]
    exact ⟨by simp, fun x hx => by cases hx⟩
  · exact key _ rfl ⟨by simp; omega, fun x hx => by
      have : x = .non := by simpa using hx
      subst this
      trivial⟩ (by simp [cnt])
theorem chw_int (n a k : Nat) {o : Obj} {ns : List Int} {T M : Store} (q : Int) (h0 : 1 ≤ q) (h1 : q < 8) (h : S0 o ns T M) (i : Int) (hi : fit (a + 1) k T (.int i)) : GivesOW (a + 3) (k + 1) 100 o ns T (exs ⟨call pg n, pg.repr, pg.eqx, pg.sub⟩ chRest [some (.int i), some (.ref 2), some (.int q), none] M) := by
  obtain ⟨i1, i2⟩ := hi
  have key : ∀ v : Val, itemAt [Val.int (i + 1), .int (i - 1), .int (-i), .bl (decide (1 ≤ i)), .int 0, .non, .tup [.int i]] (q - 1) = some v → fit (a + 3) (k + 1) T v → cnt (a + 3) T v ≤ 100 → GivesOW (a + 3) (k + 1) 100 o ns T (exs ⟨call pg n, pg.repr, pg.eqx, pg.sub⟩ chRest [some (.int i), some (.ref 2), some (.int q), none] M) := fun v hv fv cv => by
    refine GivesOW.of (M := M) ?_ h fv cv
    simp [chRest, tl, b21, isOf_bool (M := M) (x := .int i) trivial, isOf_int (M := M) (x := .int i) trivial, isB, isW, truth, isNon, lim7, lim1, asInt, op_sub, op_add, hv]
  rcases sev h0 h1 with rfl | rfl | rfl | rfl | rfl | rfl | rfl
  · exact key _ rfl ⟨by omega, by omega⟩ (by simp [cnt])
  · exact key _ rfl ⟨by omega, by omega⟩ (by simp [cnt])
  · exact key _ rfl ⟨by omega, by omega⟩ (by simp [cnt])
  · exact key _ rfl trivial (by simp [cnt])
  · exact key _ rfl ⟨by omega, by omega⟩ (by simp [cnt])
  · exact key _ rfl trivial (by simp [cnt])
  · exact key _ rfl ⟨by simp; omega, fun x hx => by
      have : x = .int i := by simpa using hx
      subst this
      exact ⟨by omega, by omega⟩⟩ (by simp [cnt])
theorem chw_str (n a k : Nat) {o : Obj} {ns : List Int} {T M : Store} (q : Int) (h0 : 1 ≤ q) (h1 : q < 8) (h : S0 o ns T M) (s : List Nat) (hs : fit (a + 1) k T (.str s)) (hk : k ≤ 1000) : GivesOW (a + 3) (k + 1) 100 o ns T (exs ⟨call pg n, pg.repr, pg.eqx, pg.sub⟩ chRest [some (.str s), some (.ref 2), some (.int q), none] M) := by
  obtain ⟨s1, s2⟩ := hs
  have hm := h.len
  have l1 : s.length + 1 ≤ LIM := by rw [lim_val]; omega
  have l2 : 1 + s.length ≤ LIM := by rw [lim_val]; omega
  have l3 : s.length ≤ 5592405 := by omega
  have key : ∀ v : Val, itemAt [Val.str (s ++ [97]), .str s.tail, .str (s.map up), .str (32 :: s), .str [], .str (s ++ [10]), .ref M.length] (q - 1) = some v → fit (a + 3) (k + 1) (T ++ [Obj.lst [.str s]]) v → cnt (a + 3) (T ++ [Obj.lst [.str s]]) v ≤ 100 → GivesOW (a + 3) (k + 1) 100 o ns T (exs ⟨call pg n, pg.repr, pg.eqx, pg.sub⟩ chRest [some (.str s), some (.ref 2), some (.int q), none] M) := fun v hv fv cv => by
    refine GivesOW.app (.lst [.str s]) ?_ h fv cv
    simp [chRest, tl, b21, isOf_bool (M := M) (x := .str s) trivial, isOf_int (M := M) (x := .str s) trivial, isOf_str (M := M) (x := .str s) trivial, isB, isW, isS, truth, isNon, lim7, lim1, asInt, op_sub, op2, l1, l2, l3, slV, cut_from, mt1, hv]
  rcases sev h0 h1 with rfl | rfl | rfl | rfl | rfl | rfl | rfl
  · exact key _ rfl ⟨by simp; omega, fun c hc => by
      rcases List.mem_append.mp hc with hc | hc
      · exact s2 c hc
      · have : c = 97 := by simpa using hc
        exact .inl (by omega)⟩ (by simp [cnt])
  · exact key _ rfl ⟨by simp; omega, fun c hc => s2 c (List.mem_of_mem_tail hc)⟩ (by simp [cnt])
  · exact key _ rfl ⟨by simp; omega, fun c hc => by
      obtain ⟨d, hd, rfl⟩ := List.mem_map.mp hc
      exact up_ok (s2 d hd)⟩ (by simp [cnt])
  · exact key _ rfl ⟨by simp; omega, fun c hc => by
      rcases List.mem_cons.mp hc with rfl | hc
      · exact .inl (by omega)
      · exact s2 c hc⟩ (by simp [cnt])
  · exact key _ rfl ⟨by simp, fun c hc => by cases hc⟩ (by simp [cnt])
  · exact key _ rfl ⟨by simp; omega, fun c hc => by
      rcases List.mem_append.mp hc with hc | hc
      · exact s2 c hc
      · exact .inr (by simpa using hc)⟩ (by simp [cnt])
  · refine key _ rfl ⟨by omega, ?_⟩ (by rw [cnt_ref (by rw [hm]; exact T_last _ _)]; simp [cnt])
    rw [hm, T_last]
    exact ⟨by simp; omega, fun x hx => by
      have : x = .str s := by simpa using hx
      subst this
      exact ⟨by omega, s2⟩⟩
end K3
end K3WLS

section K3WMS
set_option Elab.async false
set_option linter.all false
set_option maxRecDepth 100000
set_option maxHeartbeats 0
namespace K3
open Mi
theorem chw_tup (n a k w : Nat) {o : Obj} {ns : List Int} {T M : Store} (q : Int) (h0 : 1 ≤ q) (h1 : q < 8) (h : S0 o ns T M) (xs : List Val) (hx : fit (a + 1) k T (.tup xs)) (hk : k ≤ 1000) (hw : cnt (a + 1) T (.tup xs) ≤ w) : GivesOW (a + 3) (k + 1) (2 * w + 100) o ns T (exs ⟨call pg n, pg.repr, pg.eqx, pg.sub⟩ chRest [some (.tup xs), some (.ref 2), some (.int q), none] M) := by
  obtain ⟨x1, x2⟩ := hx
  have hm := h.len
  have ht : xs.tail.length ≤ xs.length := by simp
  have ht2 : xs.tail.length + 1 ≤ xs.length + 1 := by omega
  have c1 := cut_one xs
  have l1 : xs.tail.length + (cut xs none (some 1)).length ≤ LIM := by rw [lim_val]; omega
  have l2 : (cut xs none (some 1)).length + xs.length ≤ LIM := by rw [lim_val]; omega
  have l3 : xs.length + 1 ≤ LIM := by rw [lim_val]; omega
  have l1' : xs.length - 1 + (cut xs none (some 1)).length ≤ LIM := by rw [lim_val]; omega
  let X : List Obj := [.lst xs, .lst [.tup xs.tail, .tup (cut xs none (some (-1))), .tup (xs.tail ++ cut xs none (some 1)), .tup (cut xs none (some 1) ++ xs), .tup (xs ++ [.non]), .ref M.length, .non]]
  have g1 : (M ++ [Obj.lst xs] ++ [Obj.lst [.tup xs.tail, .tup (cut xs none (some (-1))), .tup (xs.tail ++ cut xs none (some 1)), .tup (cut xs none (some 1) ++ xs), .tup (xs ++ [.non]), .ref M.length, .non]])[M.length + 1]? = some (Obj.lst [.tup xs.tail, .tup (cut xs none (some (-1))), .tup (xs.tail ++ cut xs none (some 1)), .tup (cut xs none (some 1) ++ xs), .tup (xs ++ [.non]), .ref M.length, .non]) := by
    have : M.length + 1 = (M ++ [Obj.lst xs]).length := by simp
    rw [this]; simp
  have fitT : ∀ ys : List Val, ys.length ≤ 4 + (k + 1) → (∀ y ∈ ys, y ∈ xs ∨ y = .non) → fit (a + 3) (k + 1) (T ++ X) (.tup ys) := fun ys hl hy => ⟨hl, fun y hm => by
    rcases hy y hm with hy | rfl
    · exact fit_more (by omega) (by omega) (x2 y hy)
    · trivial⟩
  have sx : (xs.map (cnt (a + 2) (T ++ X))).sum = (xs.map (cnt a T)).sum := sum_congr fun y hy => cnt_more (by omega) (x2 y hy)
  have hw1 : 1 + (xs.map (cnt a T)).sum ≤ w := hw
  have cntT : ∀ ys : List Val, (ys.map (cnt (a + 2) (T ++ X))).sum ≤ 2 * (xs.map (cnt (a + 2) (T ++ X))).sum + 1 → cnt (a + 3) (T ++ X) (.tup ys) ≤ 2 * w + 100 := fun ys hy => by
    rw [sx] at hy
    rw [cnt_tup]
    omega
  have stl : (xs.tail.map (cnt (a + 2) (T ++ X))).sum ≤ (xs.map (cnt (a + 2) (T ++ X))).sum := sum_sub (List.tail_sublist _)
  have sct : ∀ lo hi, ((cut xs lo hi).map (cnt (a + 2) (T ++ X))).sum ≤ (xs.map (cnt (a + 2) (T ++ X))).sum := fun lo hi => sum_sub (cut_sub' xs lo hi)
  have key : ∀ v : Val, itemAt [Val.tup xs.tail, .tup (cut xs none (some (-1))), .tup (xs.tail ++ cut xs none (some 1)), .tup (cut xs none (some 1) ++ xs), .tup (xs ++ [.non]), .ref M.length, .non] (q - 1) = some v → fit (a + 3) (k + 1) (T ++ X) v → cnt (a + 3) (T ++ X) v ≤ 2 * w + 100 → GivesOW (a + 3) (k + 1) (2 * w + 100) o ns T (exs ⟨call pg n, pg.repr, pg.eqx, pg.sub⟩ chRest [some (.tup xs), some (.ref 2), some (.int q), none] M) := fun v hv fv cv => by
    refine ⟨v, X, M ++ [Obj.lst xs] ++ [Obj.lst [.tup xs.tail, .tup (cut xs none (some (-1))), .tup (xs.tail ++ cut xs none (some 1)), .tup (cut xs none (some 1) ++ xs), .tup (xs ++ [.non]), .ref M.length, .non]], ?_, ?_, fv, cv⟩
    · simp only [List.append_assoc, List.cons_append, List.nil_append] at g1
      simp [chRest, tl, b21, isOf_bool (M := M) (x := .tup xs) trivial, isOf_int (M := M) (x := .tup xs) trivial, isOf_str (M := M) (x := .tup xs) trivial, isOf_tuple (M := M) (x := .tup xs) trivial, isB, isW, isS, isT, truth, isNon, lim7, lim1, asInt, op_sub, op2, l1, l1', l2, l3, slV, cut_from, ixV, g1, hv]
    · have := (h.app (.lst xs)).app (.lst [.tup xs.tail, .tup (cut xs none (some (-1))), .tup (xs.tail ++ cut xs none (some 1)), .tup (cut xs none (some 1) ++ xs), .tup (xs ++ [.non]), .ref M.length, .non])
      rw [List.append_assoc] at this
      exact this
  rcases sev h0 h1 with rfl | rfl | rfl | rfl | rfl | rfl | rfl
  · exact key _ rfl (fitT _ (by omega) fun y hy => .inl (List.mem_of_mem_tail hy)) (cntT _ (by omega))
  · exact key _ rfl (fitT _ (by have := cut_len xs none (some (-1)); omega) fun y hy => .inl (cut_mem hy)) (cntT _ (by have := sct none (some (-1)); omega))
  · refine key _ rfl (fitT _ (by simp; omega) fun y hy => ?_) (cntT _ (by rw [sum_app]; have := sct none (some 1); omega))
    rcases List.mem_append.mp hy with hy | hy
    · exact .inl (List.mem_of_mem_tail hy)
    · exact .inl (cut_mem hy)
  · refine key _ rfl (fitT _ (by simp; omega) fun y hy => ?_) (cntT _ (by rw [sum_app]; have := sct none (some 1); omega))
    rcases List.mem_append.mp hy with hy | hy
    · exact .inl (cut_mem hy)
    · exact .inl hy
  · refine key _ rfl (fitT _ (by simp; omega) fun y hy => ?_) (cntT _ (by rw [sum_app]; simp [cnt]; omega))
    rcases List.mem_append.mp hy with hy | hy
    · exact .inl hy
    · exact .inr (by simpa using hy)
  · have e : (T ++ X)[M.length - 3]? = some (.lst xs) := by
      have : M.length - 3 = T.length := by omega
      rw [this]
      simp [X]
    refine key _ rfl ⟨by omega, ?_⟩ (by rw [cnt_ref e, sx]; omega)
    rw [e]
    exact ⟨by omega, fun y hy => fit_more (by omega) (by omega) (x2 y hy)⟩
  · exact key _ rfl trivial (by simp [cnt])
theorem chw_ref (n a k w : Nat) {o : Obj} {ns : List Int} {T M : Store} (q : Int) (h : S0 o ns T M) (j : Nat) (hx : fit (a + 1) k T (.ref j)) (hw : cnt (a + 1) T (.ref j) ≤ w) : GivesOW (a + 3) (k + 1) (2 * w + 100) o ns T (exs ⟨call pg n, pg.repr, pg.eqx, pg.sub⟩ chRest [some (.ref j), some (.ref 2), some (.int q), none] M) := by
  have hi : inM M (.ref j) := fit_in h hx
  refine GivesOW.of (M := M) ?_ h (fit_le (by omega) (by omega) hx) (by rw [cnt_le' (by omega) hx]; omega)
  simp [chRest, tl, b21, isOf_bool hi, isOf_int hi, isOf_str hi, isOf_tuple hi, isB, isW, isS, isT, truth, isNon]
theorem GivesOW.le {n k w w' : Nat} {o : Obj} {ns : List Int} {T : Store} {r : Out} (hw : w ≤ w') (h : GivesOW n k w o ns T r) : GivesOW n k w' o ns T r := by
  obtain ⟨v, X, M', e, h', f, c⟩ := h
  exact ⟨v, X, M', e, h', f, Nat.le_trans c hw⟩
theorem changedw (n a k w : Nat) {o : Obj} {ns : List Int} {T M : Store} (h : S0 o ns T M) (x : Val) (hx : fit (a + 1) k T x) (hk : k ≤ 1000) (hw : cnt (a + 1) T x ≤ w) : GivesW (a + 3) (k + 1) (2 * w + 100) o ns T (call pg (n + 7) 21 [x, .ref 2] M) := by
  rw [call_s pg (n + 6) 21 _ _ ⟨2, 4, b21⟩ rfl rfl]
  obtain ⟨q, M1, q0, q1, e1, h1⟩ := draw (n + 3) 8 (by decide) (by decide) h
  have eb : b21 = .cons (.set 2 (.call 14 (.cons (.var 1) (.cons (.cst (.int 8)) .nil)))) (.cons (.ite (.cmp .eq (.var 2) (.cst (.int 0))) (.cons (.ret (.call 19 (.cons (.var 1) (.cons (.cst (.int 1)) .nil)))) .nil) .nil) chRest) := rfl
  by_cases hq : q = 0
  · subst hq
    obtain ⟨v, X, M2, e2, h2, f2⟩ := any o ns 1 n h1
    have f3 : fit (a + 3) 0 (T ++ X) v := fit_le (by omega) (by omega) f2
    have c3 : cnt (a + 3) (T ++ X) v ≤ 100 := by
      rw [cnt_le' (show 3 ≤ a + 3 by omega) f2]
      exact Nat.le_trans (cnt_fit f2) (by decide)
    refine ⟨v, X, M2, ?_, h2, fit_le (by omega) (by omega) f2, by omega⟩
    have e3 : call pg (n + 6) 19 [.ref 2, .int 1] M1 = .ok v M2 := e2
    simp only [eb]
    simp [start, e1, truth, e3]
  · have r : GivesOW (a + 3) (k + 1) (2 * w + 100) o ns T (exs ⟨call pg (n + 6), pg.repr, pg.eqx, pg.sub⟩ chRest [some x, some (.ref 2), some (.int q), none] M1) := by
      cases x with
      | non => exact (chw_flag (n + 6) a k q (by omega) q1 h1 _ (.inr rfl)).le (by omega)
      | bl b => exact (chw_flag (n + 6) a k q (by omega) q1 h1 _ (.inl ⟨b, rfl⟩)).le (by omega)
      | int i => exact (chw_int (n + 6) a k q (by omega) q1 h1 i hx).le (by omega)
      | str s => exact (chw_str (n + 6) a k q (by omega) q1 h1 s hx hk).le (by omega)
      | tup xs => exact chw_tup (n + 6) a k w q (by omega) q1 h1 xs hx hk hw
      | frz xs => exact hx.elim
      | fn xs => exact hx.elim
      | ref j => exact chw_ref (n + 6) a k w q h1 j hx hw
    obtain ⟨v, X, M2, e2, h2, f2, c2⟩ := r
    refine ⟨v, X, M2, ?_, h2, f2, c2⟩
    have hz : (q == 0) = false := by rw [beq_eq_false_iff_ne]; exact hq
    simp only [eb]
    simp [start, e1, truth, hz]
    rw [e2]
    rfl
end K3
end K3WMS

section K3WOS
set_option Elab.async false
set_option linter.all false
set_option maxRecDepth 100000
set_option maxHeartbeats 0
namespace K3
open Mi
theorem spoiltw_loop (n m k F : Nat) (hF : F = m + n + 8) {o : Obj} {ns : List Int} {T M : Store} (h : S0 o ns T M) (hk : k ≤ 1000) (xs : List Val) (hx : fit (n + 1) k T (.tup xs))
    (ih : ∀ x ∈ xs, ∀ at_ : Int, 0 ≤ at_ → at_ < nodesV x → GivesW (n + 2) (k + 1) (2 * cnt n T x + 100) o ns T (call pg F 22 [x, .int at_, .ref 2] M)) (all : List Val) :
    ∀ (d j : Nat) (a : Int) (s3 s4 : Option Val), j + d = xs.length → 0 ≤ a → a < nodesL (xs.drop j) →
      GivesOW (n + 3) (k + 1) (2 * cnt (n + 1) T (.tup xs) + 100) o ns T (rounds (spF F) all [] ((List.range' j d).map fun i => Val.int (i : Nat)) [some (.tup xs), some (.int a), some (.ref 2), s3, s4] M)
  | 0, j, a, s3, s4, hj, h0, h1 => by
    rw [List.drop_eq_nil_of_le (by omega)] at h1
    simp only [nodesL] at h1
    omega
  | d + 1, j, a, s3, s4, hj, h0, h1 => by
    have hjl : j < xs.length := by omega
    rw [List.drop_eq_getElem_cons hjl] at h1
    simp only [nodesL] at h1
    have hm : xs[j] ∈ xs := List.getElem_mem hjl
    have en := c_nodes o ns n (m + 8) k h (hx.2 _ hm) hk
    have eF : m + 8 + n = F := by omega
    rw [eF] at en
    rw [List.range'_succ, List.map_cons, rounds_cons, spF_eq]
    have hxl := hx.1
    have ct := cut_to xs j
    have cf := cut_fr xs j hjl
    by_cases hlt : a < nodesV xs[j]
    · obtain ⟨v, X, M', e, h', f', c'⟩ := ih _ hm a h0 hlt
      have l1 : (cut xs none (some (j : Int))).length + 1 ≤ LIM := by rw [lim_val]; omega
      have l2 : (cut xs none (some (j : Int))).length + 1 + (cut xs (some ((j : Int) + 1)) none).length ≤ LIM := by rw [lim_val]; omega
      refine ⟨.tup ((cut xs none (some (j : Int)) ++ [v]) ++ cut xs (some ((j : Int) + 1)) none), X, M', ?_, h', ?_, ?_⟩
      · simp [spB, b22, ixV, at_nat xs j hjl, en, hlt, truth, slV, e, op2, lim1, l1, l2]
      · refine ⟨by simp; omega, fun y hy => ?_⟩
        rcases List.mem_append.mp hy with hy | hy
        · rcases List.mem_append.mp hy with hy | hy
          · exact fit_more (by omega) (by omega) (hx.2 y (cut_mem hy))
          · rw [List.mem_singleton.mp hy]; exact f'
        · exact fit_more (by omega) (by omega) (hx.2 y (cut_mem hy))
      · have sx : (xs.map (cnt (n + 2) (T ++ X))).sum = (xs.map (cnt n T)).sum := sum_congr fun y hy => cnt_more (by omega) (hx.2 y hy)
        have sp : (xs.map (cnt (n + 2) (T ++ X))).sum = ((xs.take j).map (cnt (n + 2) (T ++ X))).sum + (cnt (n + 2) (T ++ X) xs[j] + ((xs.drop (j + 1)).map (cnt (n + 2) (T ++ X))).sum) := by
          conv => lhs; rw [← List.take_append_drop j xs]
          rw [sum_app, List.drop_eq_getElem_cons hjl, List.map_cons, List.sum_cons]
        have cj : cnt (n + 2) (T ++ X) xs[j] = cnt n T xs[j] := cnt_more (by omega) (hx.2 _ hm)
        have e1 : cut xs (some ((j : Int) + 1)) none = xs.drop (j + 1) := by
          have := cut_drop xs (j + 1)
          push_cast at this
          exact this
        rw [cnt_tup, cnt_tup, sum_app, sum_app, cut_take, e1]
        simp only [List.map_cons, List.map_nil, List.sum_cons, List.sum_nil]
        omega
    · have := spoiltw_loop n m k F hF h hk xs hx ih all d (j + 1) (a - nodesV xs[j]) (some (.int (j : Nat))) (some (.int (nodesV xs[j]))) (by omega) (by omega) (by omega)
      obtain ⟨v, X, M', e, h', f', c'⟩ := this
      refine ⟨v, X, M', ?_, h', f', c'⟩
      simp [spB, b22, ixV, at_nat xs j hjl, en, hlt, truth, op_sub]
      exact e
theorem spw_zero (o : Obj) (ns : List Int) (n F k w : Nat) {T M : Store} (x : Val) (h : GivesW (n + 3) (k + 1) w o ns T (call pg F 21 [x, .ref 2] M)) : GivesW (n + 3) (k + 1) w o ns T (call pg (F + 1) 22 [x, .int 0, .ref 2] M) := by
  rw [call_s pg F 22 _ _ ⟨3, 5, b22⟩ rfl rfl]
  obtain ⟨v, X, M', e, h', f', c'⟩ := h
  refine ⟨v, X, M', ?_, h', f', c'⟩
  simp only [eb22]
  simp [start, eq_int, truth, e]
theorem spoiltw_step (o : Obj) (ns : List Int) (n m k : Nat) {T M : Store} (x : Val) (a : Int) (h : S0 o ns T M) (f : fit (n + 1) k T x) (h0 : 0 ≤ a) (h1 : a < nodesV x) (hk : k ≤ 1000)
    (ih : ∀ y b, fit n k T y → 0 ≤ b → b < nodesV y → GivesW (n + 2) (k + 1) (2 * cnt n T y + 100) o ns T (call pg (m + n + 8) 22 [y, .int b, .ref 2] M)) : GivesW (n + 3) (k + 1) (2 * cnt (n + 1) T x + 100) o ns T (call pg (m + n + 8 + 1) 22 [x, .int a, .ref 2] M) := by
  by_cases ha : a = 0
  · subst ha
    have e := changedw (m + n + 1) n k _ h x f hk (Nat.le_refl _)
    have e2 : m + n + 1 + 7 = m + n + 8 := by omega
    rw [e2] at e
    exact spw_zero o ns n (m + n + 8) k _ x e
  · have : ∃ xs, x = .tup xs := by
      cases x with
      | tup xs => exact ⟨xs, rfl⟩
      | _ => simp [nodesV] at h1; omega
    obtain ⟨xs, rfl⟩ := this
    simp only [nodesV] at h1
    have hl := f.1
    obtain ⟨v, X, M', e, h', f', c'⟩ := spoiltw_loop n m k (m + n + 8) rfl h hk xs f (fun y hy b b0 b1 => ih y b (f.2 y hy) b0 b1) ((List.range xs.length).map fun i => Val.int (i : Nat)) xs.length 0 (a - 1) none none (by omega) (by omega) (by rw [List.drop_zero]; omega)
    rw [← List.range_eq_range'] at e
    exact ⟨v, X, M', sp_more (m + n + 8) xs a ha (by omega) v e, h', f', c'⟩
theorem spoiltw (o : Obj) (ns : List Int) (n m k : Nat) {T M : Store} (x : Val) (a : Int) (h : S0 o ns T M) (f : fit n k T x) (h0 : 0 ≤ a) (h1 : a < nodesV x) (hk : k ≤ 1000) : GivesW (n + 2) (k + 1) (2 * cnt n T x + 100) o ns T (call pg (m + n + 8) 22 [x, .int a, .ref 2] M) := by
  induction n generalizing x a with
  | zero => exact f.elim
  | succ n ih =>
    exact spoiltw_step o ns n m k x a h f h0 h1 hk fun y b fy b0 b1 => ih y b fy b0 b1
end K3
end K3WOS

section K3KTS
set_option Elab.async false
set_option linter.all false
set_option maxRecDepth 100000
set_option maxHeartbeats 0
namespace Mi
open PySem PyProof.Rows
def okT (b : Nat) (z : PySem.Str) : Prop := z.length ≤ b ∧ ∀ c ∈ z.cps.toList, c < 128
theorem okT.app {a b : Nat} {x y : PySem.Str} (hx : okT a x) (hy : okT b y) : okT (a + b) (x ++ y) := by
  refine ⟨by rw [strLen_append]; exact Nat.add_le_add hx.1 hy.1, fun c hc => ?_⟩
  rw [Str.cps_append, Array.toList_append] at hc
  rcases List.mem_append.mp hc with h | h
  · exact hx.2 c h
  · exact hy.2 c h
theorem okT.le {a b : Nat} {x : PySem.Str} (h : okT a x) (hab : a ≤ b) : okT b x := ⟨Nat.le_trans h.1 hab, h.2⟩
theorem okT_of {b : Nat} {x : PySem.Str} (h : (decide (x.length ≤ b) && x.cps.toList.all (fun c => decide (c < 128))) = true) : okT b x := by
  rw [Bool.and_eq_true] at h
  exact ⟨of_decide_eq_true h.1, fun c hc => of_decide_eq_true (List.all_eq_true.mp h.2 c hc)⟩
theorem okT_join (b : Nat) : ∀ ts : List PySem.Str, (∀ t ∈ ts, okT b t) → okT (ts.length * (b + 2)) (Str.join ", " ts)
  | [], _ => ⟨Nat.zero_le _, fun c hc => by cases hc⟩
  | [x], h => by
    show okT (1 * (b + 2)) x
    exact (h x List.mem_cons_self).le (by omega)
  | x :: y :: r, h => by
    have ih := okT_join b (y :: r) fun t ht => h t (List.mem_cons_of_mem _ ht)
    have s2 : okT 2 ((", " : String) : PySem.Str) := okT_of (by decide +kernel)
    have := ((h x List.mem_cons_self).app s2).app ih
    have e : Str.join ", " (x :: y :: r) = x ++ ", " ++ Str.join ", " (y :: r) := rfl
    rw [e]
    refine this.le ?_
    have e2 : (x :: y :: r).length = (y :: r).length + 1 := rfl
    rw [e2, Nat.add_mul]
    omega
theorem okT_tup (b : Nat) (ts : List PySem.Str) (h : ∀ t ∈ ts, okT b t) : okT (ts.length * (b + 2) + 3) (tupleText ts) := by
  have s1 : okT 1 (("(" : String) : PySem.Str) := okT_of (by decide +kernel)
  have s2 : okT 2 ((if ts.length == 1 then ",)" else ")" : String) : PySem.Str) := by
    split
    · exact okT_of (by decide +kernel)
    · exact okT_of (by decide +kernel)
  exact ((s1.app (okT_join b ts h)).app s2).le (by omega)
theorem okT_lst (b : Nat) (ts : List PySem.Str) (h : ∀ t ∈ ts, okT b t) : okT (ts.length * (b + 2) + 3) (listText ts) := by
  have s1 : okT 1 (("[" : String) : PySem.Str) := okT_of (by decide +kernel)
  have s2 : okT 1 (("]" : String) : PySem.Str) := okT_of (by decide +kernel)
  rw [listText_eq_join]
  exact ((s1.app (okT_join b ts h)).app s2).le (by omega)
theorem okT_dic (b : Nat) (ts : List PySem.Str) (h : ∀ t ∈ ts, okT b t) : okT (ts.length * (b + 2) + 3) (dictText ts) := by
  have s1 : okT 1 (("{" : String) : PySem.Str) := okT_of (by decide +kernel)
  have s2 : okT 1 (("}" : String) : PySem.Str) := okT_of (by decide +kernel)
  exact ((s1.app (okT_join b ts h)).app s2).le (by omega)
theorem okT_int {i : Int} (h : i.natAbs < 10 ^ 12) : okT 13 (Str.ofString (toString i)) := by
  refine ⟨?_, PySem.W.KSb.asc_num i⟩
  have := int_text_length_le10 (k := 12) (by decide) h
  have e : (Str.ofString (toString i)).length = (toString i).length := by
    show (Str.ofString (toString i)).cps.size = _
    rw [Str.ofString_eq_toList]
    simp [String.length_toList]
  omega
theorem fold_asc (q : Nat) : ∀ (l : List Nat) (acc : Array Nat), (∀ c ∈ acc.toList, c < 128) → (∀ c ∈ l, ∀ x ∈ Builtin.Str.reprChar q c, x < 128) → ∀ c ∈ (l.foldl (fun out c => out ++ (Builtin.Str.reprChar q c).toArray) acc).toList, c < 128
  | [], acc, h, _ => h
  | d :: l, acc, h, hl => by
    rw [List.foldl_cons]
    refine fold_asc q l _ (fun c hc => ?_) fun c hc => hl c (List.mem_cons_of_mem _ hc)
    rw [Array.toList_append] at hc
    rcases List.mem_append.mp hc with hc | hc
    · exact h c hc
    · exact hl d List.mem_cons_self c (by simpa using hc)
theorem okT_str {s : List Nat} (h : ∀ c ∈ s, K3.okc c) : okT (10 * s.length + 2) (reprText (toS s)) := by
  have h1 : ∀ c ∈ s, c < 127 := fun c hc => by
    have := h c hc
    unfold K3.okc at this
    omega
  refine ⟨?_, ?_⟩
  · have := StrLaws.reprText_len (toS s) fun c hc => by
      have := h1 c (by simpa [toS] using hc)
      omega
    have e : (toS s).length = s.length := by simp [toS, Str.length]
    rw [e] at this
    exact this
  · have d1 : ∀ c ∈ List.range 127, ∀ x ∈ Builtin.Str.reprChar 34 c, x < 128 := by decide +kernel
    have d2 : ∀ c ∈ List.range 127, ∀ x ∈ Builtin.Str.reprChar 39 c, x < 128 := by decide +kernel
    have hq : reprQuote (toS s) = 34 ∨ reprQuote (toS s) = 39 := by
      unfold reprQuote
      split
      · exact .inl rfl
      · exact .inr rfl
    intro c hc
    unfold reprText at hc
    rw [Array.toList_push, ← Array.foldl_toList] at hc
    rcases List.mem_append.mp hc with hc | hc
    · refine fold_asc _ _ _ (fun d hd => ?_) (fun d hd => ?_) c hc
      · have : d = reprQuote (toS s) := by simpa using hd
        rcases hq with e | e <;> omega
      · have hd2 : d ∈ List.range 127 := List.mem_range.mpr (h1 d (by simpa [toS] using hd))
        rcases hq with e | e <;> rw [e]
        · exact d1 d hd2
        · exact d2 d hd2
    · have : c = reprQuote (toS s) := by simpa using hc
      rcases hq with e | e <;> omega
end Mi
end K3KTS

section K3WRS
set_option Elab.async false
set_option linter.all false
set_option maxRecDepth 100000
set_option maxHeartbeats 0
namespace Mi
open PySem PyProof.Rows
theorem okT_joinS {α : Type} (g : α → Nat) : ∀ {xs : List α} {zs : List PySem.Str}, PySem.Paired (fun x z => okT (g x) z) xs zs → okT ((xs.map fun x => g x + 2).sum) (Str.join ", " zs)
  | _, _, .nil => ⟨Nat.zero_le _, fun c hc => by cases hc⟩
  | _, _, .cons (a := a) h .nil => by
    show okT (g a + 2 + 0) _
    exact h.le (by omega)
  | _, _, .cons (a := a) h (.cons (a := b) (l₁ := xs) (b := y) (l₂ := r) h2 t) => by
    have ih := okT_joinS g (.cons h2 t)
    have s2 : okT 2 ((", " : String) : PySem.Str) := okT_of (by decide +kernel)
    have := (h.app s2).app ih
    refine PySem_okT_eq rfl (this.le ?_)
    simp only [List.map_cons, List.sum_cons]
    omega
where PySem_okT_eq {b : Nat} {x y : PySem.Str} (e : x = y) (h : okT b x) : okT b y := e ▸ h
theorem okT_tupS (b : Nat) (ts : List PySem.Str) (h : okT b (Str.join ", " ts)) : okT (b + 3) (tupleText ts) := by
  have s1 : okT 1 (("(" : String) : PySem.Str) := okT_of (by decide +kernel)
  have s2 : okT 2 ((if ts.length == 1 then ",)" else ")" : String) : PySem.Str) := by
    split
    · exact okT_of (by decide +kernel)
    · exact okT_of (by decide +kernel)
  exact ((s1.app h).app s2).le (by omega)
theorem okT_lstS (b : Nat) (ts : List PySem.Str) (h : okT b (Str.join ", " ts)) : okT (b + 3) (listText ts) := by
  have s1 : okT 1 (("[" : String) : PySem.Str) := okT_of (by decide +kernel)
  have s2 : okT 1 (("]" : String) : PySem.Str) := okT_of (by decide +kernel)
  rw [listText_eq_join]
  exact ((s1.app h).app s2).le (by omega)
theorem okT_dicS (b : Nat) (ts : List PySem.Str) (h : okT b (Str.join ", " ts)) : okT (b + 3) (dictText ts) := by
  have s1 : okT 1 (("{" : String) : PySem.Str) := okT_of (by decide +kernel)
  have s2 : okT 1 (("}" : String) : PySem.Str) := okT_of (by decide +kernel)
  exact ((s1.app h).app s2).le (by omega)
end Mi
namespace K3
open PySem Mi
theorem S0.at {o : Mi.Obj} {ns : List Int} {T M : Mi.Store} (h : S0 o ns T M) {j : Nat} (hj : 3 ≤ j) : M[j]? = T[j - 3]? := by
  obtain ⟨a, b, c, _, rfl⟩ := h
  obtain ⟨i, rfl⟩ : ∃ i, j = i + 3 := ⟨j - 3, by omega⟩
  simp [wellS]
theorem int_small {i : Int} {k : Nat} (hk : k ≤ 1000) (h1 : -(200000000000 + (k : Int)) ≤ i) (h2 : i ≤ 200000000000 + (k : Int)) : i.natAbs < 10 ^ 12 := by
  have e : (10 : Nat) ^ 12 = 1000000000000 := by decide
  rw [e]; omega
theorem int_log {i : Int} (h : i.natAbs < 10 ^ 12) : i.natAbs.log2 < 1920 := by
  by_cases h0 : i.natAbs = 0
  · rw [h0]; decide
  · rw [Nat.log2_lt h0]
    exact Nat.lt_trans h (Nat.lt_trans (show 10 ^ 12 < 2 ^ 64 by decide) (Nat.pow_lt_pow_right (by decide) (by decide)))
theorem all_zS {α : Type} (g : α → Nat) (C : (α → Option PySem.Str) → Prop) : ∀ xs : List α, (∀ x ∈ xs, ∃ z, okT (g x) z ∧ ∀ f, C f → f x = some z) → ∃ zs, PySem.Paired (fun x z => okT (g x) z) xs zs ∧ ∀ f, C f → optAll (xs.map f) = some zs
  | [], _ => ⟨[], .nil, fun f _ => rfl⟩
  | x :: xs, h => by
    obtain ⟨z, z1, z2⟩ := h x List.mem_cons_self
    obtain ⟨zs, e2, e3⟩ := all_zS g C xs fun y hy => h y (List.mem_cons_of_mem _ hy)
    refine ⟨z :: zs, .cons z1 e2, fun f hf => ?_⟩
    simp only [List.map_cons, z2 f hf, optAll, e3 f hf, Option.map_some]
def B (k : Nat) : Nat := 10 * (110 + k) + 10
theorem mul_two {c k : Nat} (h : 1 ≤ c) : 300 + 2 ≤ c * B k := by
  have : 1 * B k ≤ c * B k := Nat.mul_le_mul_right _ h
  unfold B at this ⊢
  omega
theorem sum_mul {α : Type} {f : α → Nat} {b : Nat} (hb : 2 ≤ b) : ∀ {xs : List α}, (∀ x ∈ xs, 1 ≤ f x) → (xs.map fun x => f x * b - 2 + 2).sum = (xs.map f).sum * b
  | [], _ => by simp
  | x :: xs, h => by
    have h1 : 1 * b ≤ f x * b := Nat.mul_le_mul_right _ (h x List.mem_cons_self)
    simp only [List.map_cons, List.sum_cons, Nat.add_mul]
    rw [sum_mul hb fun y hy => h y (List.mem_cons_of_mem _ hy)]
    omega
theorem rep_fitw (nm : Nat → PySem.Str) (hx : ∀ c, okT 300 (excName (nm c) ++ PySem.Str.ofString "()")) (k : Nat) (hk : k ≤ 1000) : ∀ (n : Nat) {T : Mi.Store} {v : Mi.Val}, fit n k T v → ∃ z, okT (cnt n T v * B k - 2) z ∧ ∀ o ns X M m, S0 o ns (T ++ X) M → n + 2 ≤ m → reprS nm M m v = some z
  | 0, T, v, f => f.elim
  | n + 1, T, v, f => by
    have hp := cnt_pos (n + 1) T v
    have hb := mul_two (k := k) hp
    have hB : 2 ≤ B k := by unfold B; omega
    have hB5 : 1110 ≤ B k := by unfold B; omega
    let C : (Mi.Val → Option PySem.Str) → Prop := fun g => ∃ o ns X M m, S0 o ns (T ++ X) M ∧ n + 2 ≤ m ∧ g = reprS nm M m
    have row : ∀ xs : List Mi.Val, (∀ x ∈ xs, fit n k T x) → ∃ zs : List PySem.Str, okT ((xs.map (cnt n T)).sum * B k) (PySem.Str.join ", " zs) ∧ ∀ g, C g → optAll (xs.map g) = some zs := fun xs hxs => by
      obtain ⟨zs, e1, e2⟩ := all_zS (fun x => cnt n T x * B k - 2) C xs fun x hm => by
        obtain ⟨z, z1, z2⟩ := rep_fitw nm hx k hk n (hxs x hm)
        exact ⟨z, z1, fun g ⟨o, ns, X, M, m, a, b, e⟩ => by rw [e]; exact z2 o ns X M m a b⟩
      have := okT_joinS _ e1
      rw [sum_mul hB fun x _ => cnt_pos n T x] at this
      exact ⟨zs, this, e2⟩
    have suc : ∀ m, n + 1 + 2 ≤ m → ∃ m', m = m' + 1 ∧ n + 2 ≤ m' := fun m hm => ⟨m - 1, by omega, by omega⟩
    cases v with
    | non =>
      refine ⟨"None", (okT_of (b := 300) (by decide +kernel)).le (by omega), fun o ns X M m _ hm => ?_⟩
      obtain ⟨m', rfl, _⟩ := suc m hm
      rfl
    | bl b =>
      refine ⟨if b then "True" else "False", ?_, fun o ns X M m _ hm => ?_⟩
      · cases b
        · exact (okT_of (b := 300) (by decide +kernel)).le (by omega)
        · exact (okT_of (b := 300) (by decide +kernel)).le (by omega)
      · obtain ⟨m', rfl, _⟩ := suc m hm
        rfl
    | int i =>
      have h12 := int_small hk f.1 f.2
      refine ⟨(toString i : String), (okT_int h12).le (by omega), fun o ns X M m _ hm => ?_⟩
      obtain ⟨m', rfl, _⟩ := suc m hm
      unfold reprS
      simp only [int_log h12, if_true]
    | str s =>
      have h1 := okT_str f.2
      have h3 := f.1
      refine ⟨reprText (toS s), h1.le ?_, fun o ns X M m _ hm => ?_⟩
      · show _ ≤ 1 * B k - 2
        unfold B
        omega
      · obtain ⟨m', rfl, _⟩ := suc m hm
        have h4 : (reprText (toS s)).length ≤ sizeLine := by
          have := h1.1
          unfold sizeLine
          omega
        unfold reprS
        simp only [h4, if_true]
    | tup xs =>
      obtain ⟨zs, e2, e3⟩ := row xs f.2
      refine ⟨tupleText zs, (okT_tupS _ zs e2).le ?_, fun o ns X M m hS hm => ?_⟩
      · rw [cnt_tup, Nat.add_mul]
        omega
      · obtain ⟨m', rfl, hm'⟩ := suc m hm
        unfold reprS
        simp only [e3 _ ⟨o, ns, X, M, m', hS, hm', rfl⟩, Option.map_some]
    | frz xs => exact f.elim
    | fn xs => exact f.elim
    | ref j =>
      obtain ⟨h3, f⟩ := f
      have got : ∀ {ob : Mi.Obj}, T[j - 3]? = some ob → ∀ {o ns X M}, S0 o ns (T ++ X) M → M[j]? = some ob := fun {ob} e {o ns X M} hS => by
        rw [hS.at h3, List.getElem?_append_left (List.getElem?_eq_some_iff.mp e).1, e]
      cases e : T[j - 3]? with
      | none => rw [e] at f; exact f.elim
      | some ob =>
        rw [e] at f
        cases ob with
        | lst xs =>
          obtain ⟨zs, e2, e3⟩ := row xs f.2
          refine ⟨listText zs, (okT_lstS _ zs e2).le ?_, fun o ns X M m hS hm => ?_⟩
          · rw [cnt_ref e, Nat.add_mul]
            omega
          · obtain ⟨m', rfl, hm'⟩ := suc m hm
            unfold reprS
            simp only [got e hS, e3 _ ⟨o, ns, X, M, m', hS, hm', rfl⟩, Option.map_some]
        | dic kvs =>
          let D : (Mi.Val × Mi.Val → Option PySem.Str) → Prop := fun g => ∃ o ns X M m, S0 o ns (T ++ X) M ∧ n + 2 ≤ m ∧ g = fun p => (reprS nm M m p.1).bind fun a => (reprS nm M m p.2).map fun b => a ++ ": " ++ b
          have s2 : okT 2 ((": " : String) : PySem.Str) := okT_of (by decide +kernel)
          obtain ⟨zs, e1, e3⟩ := all_zS (fun p => (cnt n T p.1 + cnt n T p.2) * B k - 2) D kvs fun p hp => by
            obtain ⟨a, a1, a2⟩ := rep_fitw nm hx k hk n (f.2 p hp).1
            obtain ⟨b, b1, b2⟩ := rep_fitw nm hx k hk n (f.2 p hp).2
            refine ⟨a ++ ": " ++ b, ((a1.app s2).app b1).le ?_, fun g ⟨o, ns, X, M, m, h1, h2, eg⟩ => ?_⟩
            · have q1 := mul_two (k := k) (cnt_pos n T p.1)
              have q2 := mul_two (k := k) (cnt_pos n T p.2)
              rw [Nat.add_mul]
              omega
            · rw [eg]
              simp only [a2 o ns X M m h1 h2, b2 o ns X M m h1 h2, Option.bind_some, Option.map_some]
          have e2 := okT_joinS _ e1
          rw [sum_mul hB fun x _ => by have := cnt_pos n T x.1; omega] at e2
          refine ⟨dictText zs, (okT_dicS _ zs e2).le ?_, fun o ns X M m hS hm => ?_⟩
          · have : cnt (n + 1) T (.ref j) = 1 + (kvs.map fun p => cnt n T p.1 + cnt n T p.2).sum := by simp only [cnt, e]
            rw [this, Nat.add_mul]
            omega
          · obtain ⟨m', rfl, hm'⟩ := suc m hm
            unfold reprS
            simp only [got e hS, e3 _ ⟨o, ns, X, M, m', hS, hm', rfl⟩, Option.map_some]
        | exv c =>
          refine ⟨excName (nm c) ++ PySem.Str.ofString "()", (hx c).le (by omega), fun o ns X M m hS hm => ?_⟩
          obtain ⟨m', rfl, hm'⟩ := suc m hm
          have : 2 ≤ m' := by omega
          unfold reprS
          simp only [got e hS, this, if_true]
        | dit c => exact f.elim
theorem cls_ok (c : Nat) : okT 300 (excName (clsOf pi c) ++ PySem.Str.ofString "()") := by
  match c with
  | 0 => exact okT_of (by decide +kernel)
  | 1 => exact okT_of (by decide +kernel)
  | 2 => exact okT_of (by decide +kernel)
  | c + 3 =>
    have e : clsOf pi (c + 3) = "NoTable" := rfl
    rw [e]
    exact okT_of (by decide +kernel)
theorem repw {n k : Nat} (hk : k ≤ 1000) (hn : n ≤ 38) {T : Mi.Store} {v : Mi.Val} (f : fit n k T v) (hc : cnt n T v * B k ≤ LIM) : ∃ z, ∀ o ns X M, S0 o ns (T ++ X) M → pg.repr v M = some z := by
  obtain ⟨z, z1, z2⟩ := rep_fitw (clsOf pi) cls_ok k hk n f
  have hz : z.cps.toList.length ≤ LIM ∧ ∀ c ∈ z.cps.toList, c < 128 := ⟨by
    have := z1.1
    have e : z.cps.toList.length = z.length := by simp [PySem.Str.length]
    omega, z1.2⟩
  refine ⟨z.cps.toList, fun o ns X M h => ?_⟩
  show reprP (clsOf pi) v M = _
  unfold reprP
  rw [z2 o ns X M 40 h (by omega), Option.bind_some, if_pos hz]
end K3
end K3WRS

section K3GAS
set_option Elab.async false
set_option linter.all false
set_option maxRecDepth 100000
set_option maxHeartbeats 0
namespace K3
open Mi
/-! ### drawn names and texts are such -/
def onecQ (Q : Nat → Prop) (y : Val) : Prop := ∃ c, y = .str [c] ∧ Q c
theorem strs_ofQ {Q : Nat → Prop} : ∀ {ys : List Val}, (∀ y ∈ ys, onecQ Q y) → ∃ zs : List (List Nat), strsOf ys = some zs ∧ zs.length = ys.length ∧ (zs.map List.length).sum = ys.length ∧ (joined [] zs).length = ys.length ∧ ∀ c ∈ joined [] zs, Q c
  | [], _ => ⟨[], rfl, rfl, rfl, rfl, fun c hc => by cases hc⟩
  | y :: ys, h => by
    obtain ⟨c, rfl, hc⟩ := h y List.mem_cons_self
    obtain ⟨zs, e1, e2, e3, e4, e5⟩ := strs_ofQ fun z hz => h z (List.mem_cons_of_mem _ hz)
    have ej : joined [] ([c] :: zs) = c :: joined [] zs := by
      cases zs <;> simp [joined]
    refine ⟨[c] :: zs, by simp [strsOf, e1], by simp [e2], by simp [e3]; omega, by rw [ej]; simp [e4], fun d hd => ?_⟩
    rw [ej] at hd
    rcases List.mem_cons.mp hd with rfl | hd
    · exact hc
    · exact e5 d hd
theorem signs_in (r : Int) (h0 : 0 ≤ r) (h1 : r < 94) : ∃ c, itemAt signs r = some c ∧ (32 ≤ c ∧ c ≤ 126) := by
  have h2 : r.toNat < signs.length := by show r.toNat < 94; omega
  refine ⟨signs[r.toNat], ?_, ?_⟩
  · unfold itemAt place
    rw [if_pos h0, if_pos (by show r < ((94 : Nat) : Int); omega)]
    simp [h2]
  · have : ∀ c ∈ signs, 32 ≤ c ∧ c ≤ 126 := by decide +kernel
    exact this _ (List.getElem_mem h2)
theorem abc_in (r : Int) (h0 : 0 ≤ r) (h1 : r < 26) : ∃ c, itemAt abc r = some c ∧ (97 ≤ c ∧ c ≤ 122) := by
  have h2 : r.toNat < abc.length := by show r.toNat < 26; omega
  refine ⟨abc[r.toNat], ?_, ?_⟩
  · unfold itemAt place
    rw [if_pos h0, if_pos (by show r < ((26 : Nat) : Int); omega)]
    simp [h2]
  · have : ∀ c ∈ abc, 97 ≤ c ∧ c ≤ 122 := by decide +kernel
    exact this _ (List.getElem_mem h2)
theorem string_p (n : Nat) (k : Int) (hk : 0 ≤ k) (hk2 : k ≤ 1000) {o : Obj} {ns : List Int} {T M : Store} (h : S0 o ns T M) : ∃ s M', call pg (n + 4) 17 [.ref 2, .int k] M = .ok (.str s) M' ∧ S0 o ns T M' ∧ (s.length : Int) = k ∧ ∀ c ∈ s, 32 ≤ c ∧ c ≤ 126 := by
  rw [call_s pg (n + 3) 17 _ _ ⟨2, 4, b17⟩ rfl rfl]
  obtain ⟨ys, M', e1, i1, _, l1, p1⟩ := comp_gen (cf := ⟨call pg (n + 3), pg.repr, pg.eqx, pg.sub⟩) (σ := [some (.ref 2), some (.int k), some (.str signs), none]) (M := M) (own := [3]) (i := 3) (a := .var 1) (e := .ix (.var 2) (.call 14 (.cons (.var 0) (.cons (.cst (.int 94)) .nil)))) (k := k) (I := S0 o ns T) (R := fun _ _ => True) (P := fun _ y => onecQ (fun c => 32 ≤ c ∧ c ≤ 126) y) (fun _ => trivial) (fun _ _ _ _ _ => trivial) (fun _ _ _ _ p => p) (M0 := M) (by simp) hk hk2 (fun j M i => by
    obtain ⟨r, M', r0, r1, e, i'⟩ := draw n 94 (by decide) (by decide) i
    obtain ⟨c, ec, oc⟩ := signs_in r r0 r1
    exact ⟨.str [c], M', by simp [wiped, e, ixV, ec], i', trivial, c, rfl, oc⟩) h
  obtain ⟨zs, z1, z2, z3, z4, z5⟩ := strs_ofQ p1
  refine ⟨joined [] zs, M', ?_, i1, by rw [z4]; exact l1, z5⟩
  have hlim : (zs.map List.length).sum + zs.length * ([] : List Nat).length ≤ LIM := by rw [z3, lim_val]; simp; omega
  simp at hlim
  simp [b17, start, c_signs (n + 2), e1, z1, hlim]
theorem letter_of {s : List Nat} (h : ∀ c ∈ s, 97 ≤ c ∧ c ≤ 122) : letterB s = true := List.all_eq_true.mpr fun c hc => decide_eq_true (h c hc)
theorem plain_of {s : List Nat} (h : ∀ c ∈ s, 32 ≤ c ∧ c ≤ 126) : plainB s = true := List.all_eq_true.mpr fun c hc => decide_eq_true (h c hc)
theorem name_p (n : Nat) {o : Obj} {ns : List Int} {T M : Store} (h : S0 o ns T M) : ∃ s M', call pg (n + 4) 18 [.ref 2] M = .ok (.str s) M' ∧ S0 o ns T M' ∧ nameB0 (.str s) = true := by
  rw [call_s pg (n + 3) 18 _ _ ⟨1, 3, b18⟩ rfl rfl]
  obtain ⟨m1, M1, a0, a1, e1, h1⟩ := draw n 2 (by decide) (by decide) h
  obtain ⟨m2, M2, c0, c1, e2, h2⟩ := draw n 4 (by decide) (by decide) h1
  have tail : ∀ (k : Int) (M3 : Store), 0 ≤ k → k ≤ 8 → S0 o ns T M3 → ∃ s M', Out.on (ev ⟨call pg (n + 3), pg.repr, pg.eqx, pg.sub⟩ (.join (.cst (.str [])) (.comp [2] (.one 2) (.rng (.var 1)) .nil (.ix (.cst (.str abc)) (.call 14 (.cons (.var 0) (.cons (.cst (.int 26)) .nil)))))) [some (.ref 2), some (.int k), none] M3) [some (.ref 2), some (.int k), none] (fun v M1 => .ret v M1) = .ret (.str s) M' ∧ S0 o ns T M' ∧ (s.length : Int) = k ∧ ∀ c ∈ s, 97 ≤ c ∧ c ≤ 122 := by
    intro k M3 k0 k1 h3
    obtain ⟨ys, M', e3, i3, _, l3, p3⟩ := comp_gen (cf := ⟨call pg (n + 3), pg.repr, pg.eqx, pg.sub⟩) (σ := [some (.ref 2), some (.int k), none]) (M := M3) (own := [2]) (i := 2) (a := .var 1) (e := .ix (.cst (.str abc)) (.call 14 (.cons (.var 0) (.cons (.cst (.int 26)) .nil)))) (k := k) (I := S0 o ns T) (R := fun _ _ => True) (P := fun _ y => onecQ (fun c => 97 ≤ c ∧ c ≤ 122) y) (fun _ => trivial) (fun _ _ _ _ _ => trivial) (fun _ _ _ _ p => p) (M0 := M3) (by simp) k0 (by omega) (fun j M i => by
      obtain ⟨r, M', r0, r1, e, i'⟩ := draw n 26 (by decide) (by decide) i
      obtain ⟨c, ec, oc⟩ := abc_in r r0 r1
      exact ⟨.str [c], M', by simp [wiped, e, ixV, ec], i', trivial, c, rfl, oc⟩) h3
    obtain ⟨zs, z1, z2, z3, z4, z5⟩ := strs_ofQ p3
    refine ⟨joined [] zs, M', ?_, i3, by rw [z4]; exact l3, z5⟩
    have hlim : (zs.map List.length).sum ≤ LIM := by rw [z3, lim_val]; omega
    simp [e3, z1, hlim]
  have fin : ∀ (s : List Nat) (k : Int), (s.length : Int) = k → 1 ≤ k → k ≤ 8 → (∀ c ∈ s, 97 ≤ c ∧ c ≤ 122) → nameB0 (.str s) = true := fun s k e k1 k8 hc => by
    unfold nameB0
    simp only [letter_of hc, Bool.and_true]
    rw [Bool.and_eq_true]
    exact ⟨decide_eq_true (by omega), decide_eq_true (by omega)⟩
  by_cases hm : m2 = 0
  · subst hm
    obtain ⟨m3, M3, d0, d1, e3, h3⟩ := draw n 8 (by decide) (by decide) h2
    obtain ⟨s, M', e4, h4, l4, q4⟩ := tail (1 + m3) M3 (by omega) (by omega) h3
    refine ⟨s, M', ?_, h4, fin s _ l4 (by omega) (by omega) q4⟩
    simp only [abc] at e4
    simp [-s_join, b18, start, e1, e2, op_add, noRef, depth, eqV, truth, e3, e4]
  · obtain ⟨s, M', e4, h4, l4, q4⟩ := tail (1 + m1) M2 (by omega) (by omega) h2
    refine ⟨s, M', ?_, h4, fin s _ l4 (by omega) (by omega) q4⟩
    simp only [abc] at e4
    simp [-s_join, b18, start, e1, e2, op_add, noRef, depth, eqV, truth, hm, e4]
theorem lim5 : (5 : Nat) ≤ LIM := by rw [lim_val]; omega
theorem lim3 : (3 : Nat) ≤ LIM := by rw [lim_val]; omega
theorem lim4 : (4 : Nat) ≤ LIM := by rw [lim_val]; omega
theorem text_p (n : Nat) {o : Obj} {ns : List Int} {T M : Store} (h : S0 o ns T M) : ∃ s M', call pg (n + 5) 23 [.ref 2] M = .ok (.str s) M' ∧ S0 o ns T M' ∧ textB (.str s) = true := by
  rw [call_s pg (n + 4) 23 _ _ ⟨1, 2, b23⟩ rfl rfl]
  obtain ⟨q, M1, q0, q1, e1, h1⟩ := draw (n + 1) 5 (by decide) (by decide) h
  obtain ⟨a, M2, a0, a1, e2, h2⟩ := draw (n + 1) 4 (by decide) (by decide) h1
  obtain ⟨b, M3, c0, c1, e3, h3⟩ := draw (n + 1) 20 (by decide) (by decide) h2
  obtain ⟨d, M4, d0, d1, e4, h4⟩ := draw (n + 1) 97 (by decide) (by decide) h3
  have fin : ∀ m : Int, itemAt [Val.int 0, .int (1 + a), .int b, .int 96, .int d] q = some (.int m) → 0 ≤ m → m ≤ 96 → ∃ s M', back M (exs ⟨call pg (n + 4), pg.repr, pg.eqx, pg.sub⟩ b23 (start ⟨1, 2, b23⟩ [.ref 2]) M) = .ok (.str s) M' ∧ S0 o ns T M' ∧ textB (.str s) = true := fun m hm m0 m1 => by
    obtain ⟨s, M5, e5, h5, l, p⟩ := string_p n m m0 (by omega) h4
    refine ⟨s, M5, ?_, h5, ?_⟩
    · simp [b23, start, e1, e2, e3, e4, op_add, lim5, asInt, hm, e5]
    · unfold textB
      simp only [plain_of p, Bool.and_true]
      exact decide_eq_true (by omega)
  have hq : q = 0 ∨ q = 1 ∨ q = 2 ∨ q = 3 ∨ q = 4 := by omega
  rcases hq with rfl | rfl | rfl | rfl | rfl
  · exact fin 0 rfl (by omega) (by omega)
  · exact fin (1 + a) rfl (by omega) (by omega)
  · exact fin b rfl (by omega) (by omega)
  · exact fin 96 rfl (by omega) (by omega)
  · exact fin d rfl (by omega) (by omega)
theorem client_p (n : Nat) {o : Obj} {ns : List Int} {T M : Store} (h : S0 o ns T M) : ∃ r M', 1 ≤ r ∧ r ≤ 9 ∧ call pg (n + 4) 24 [.ref 2] M = .ok (.int r) M' ∧ S0 o ns T M' := by
  rw [call_s pg (n + 3) 24 _ _ ⟨1, 1, b24⟩ rfl rfl]
  obtain ⟨q, M1, q0, q1, e1, h1⟩ := draw n 9 (by decide) (by decide) h
  exact ⟨1 + q, M1, by omega, by omega, by simp [b24, start, e1, op_add], h1⟩
/-! ### what is drawn stands by itself -/
theorem text_fit {s : List Nat} {n k : Nat} {T : Store} (h : textB (.str s) = true) : fit (n + 1) k T (.str s) := by
  obtain ⟨h1, h2⟩ := and2 (show (decide ((s.length : Int) ≤ 96) && plainB s) = true from h)
  have h1 := of_decide_eq_true h1
  exact ⟨by omega, fun c hc => .inl (of_decide_eq_true (List.all_eq_true.mp h2 c hc))⟩
theorem name_fit {s : List Nat} {n k : Nat} {T : Store} (h : nameB0 (.str s) = true) : fit (n + 1) k T (.str s) := by
  obtain ⟨h1, h2⟩ := and2 (show (decide (1 ≤ (s.length : Int)) && decide ((s.length : Int) ≤ 8) && letterB s) = true from h)
  have h1 := of_decide_eq_true (and2 h1).2
  exact ⟨by omega, fun c hc => .inl (by have := of_decide_eq_true (List.all_eq_true.mp h2 c hc); omega)⟩
theorem int_fit {i : Int} {n k : Nat} {T : Store} (h0 : 0 ≤ i) (h1 : i ≤ 200000000000) : fit (n + 1) k T (.int i) := ⟨by omega, by omega⟩
theorem word_fit {w : List Nat} {n k : Nat} {T : Store} (h : w.length ≤ 96) (h2 : w.all (fun c => decide (32 ≤ c ∧ c ≤ 126)) = true) : fit (n + 1) k T (.str w) := ⟨by omega, fun c hc => .inl (of_decide_eq_true (List.all_eq_true.mp h2 c hc))⟩
theorem tup_fit {xs : List Val} {n k : Nat} {T : Store} (hl : xs.length ≤ 4 + k) (h : ∀ x ∈ xs, fit n k T x) : fit (n + 1) k T (.tup xs) := ⟨hl, h⟩
/-- drawn: v, of a kind, by a call that makes nothing -/
def Drawn (o : Obj) (ns : List Int) (T : Store) (r : Res Val) (P : Val → Prop) : Prop := ∃ v M', r = .ok v M' ∧ S0 o ns T M' ∧ P v
theorem stamp_p (n : Nat) {o : Obj} {ns : List Int} {T M : Store} (h : S0 o ns T M) : Drawn o ns T (call pg (n + 5) 25 [.ref 2] M) fun v => stampB v = true ∧ fit 2 0 [] v := by
  rw [call_s pg (n + 4) 25 _ _ ⟨1, 1, b25⟩ rfl rfl]
  obtain ⟨q, M1, q0, q1, e1, h1⟩ := draw (n + 1) 6 (by decide) (by decide) h
  have ft : ∀ {a b c : Int}, (0 ≤ a ∧ a ≤ 200000000000) → (0 ≤ b ∧ b ≤ 200000000000) → (0 ≤ c ∧ c ≤ 200000000000) → fit 2 0 [] (.tup [.int a, .int b, .int c]) := fun {a b c} ha hb hc => tup_fit (by simp) fun x hx => by
    have : x = .int a ∨ x = .int b ∨ x = .int c := by simpa using hx
    rcases this with rfl | rfl | rfl
    · exact int_fit ha.1 ha.2
    · exact int_fit hb.1 hb.2
    · exact int_fit hc.1 hc.2
  by_cases hq : q = 0
  · subst hq
    exact ⟨.tup [.int 0, .int 0, .int 0], M1, by simp [b25, start, e1, truth, lim3], h1, by decide, ft (by omega) (by omega) (by omega)⟩
  · have hz : (q == 0) = false := by rw [beq_eq_false_iff_ne]; exact hq
    obtain ⟨a, M2, a0, a1, e2, h2⟩ := number n h1
    obtain ⟨b, M3, c0, c1, e3, h3⟩ := client_p n h2
    obtain ⟨d, M4, d0, d1, e4, h4⟩ := number n h3
    refine ⟨.tup [.int (1 + a), .int b, .int (1 + d)], M4, by simp [b25, start, e1, truth, hz, e2, e3, e4, op_add, lim3], h4, ?_, ft (by omega) (by omega) (by omega)⟩
    have p1 : decide (1 ≤ 1 + a) = true := decide_eq_true (by omega)
    have p2 : decide (1 ≤ b) = true := decide_eq_true c0
    have p3 : decide (b ≤ 9) = true := decide_eq_true c1
    have p4 : decide (1 ≤ 1 + d) = true := decide_eq_true (by omega)
    simp only [stampB, fromB, cliB, p1, p2, p3, p4, Bool.and_self, Bool.true_or]
theorem edit_p (n : Nat) {o : Obj} {ns : List Int} {T M : Store} (h : S0 o ns T M) : Drawn o ns T (call pg (n + 6) 26 [.ref 2] M) fun v => editB v = true ∧ fit 2 0 [] v := by
  rw [call_s pg (n + 5) 26 _ _ ⟨1, 2, b26⟩ rfl rfl]
  obtain ⟨q, M1, q0, q1, e1, h1⟩ := draw (n + 2) 6 (by decide) (by decide) h
  have hc : q = 0 ∨ q = 1 ∨ q = 2 ∨ q = 3 ∨ 4 ≤ q := by omega
  rcases hc with rfl | rfl | rfl | rfl | hq
  · obtain ⟨s, M2, e2, h2, p⟩ := text_p n h1
    refine ⟨.tup [.str [112, 117, 116], .str s], M2, by simp [b26, start, e1, truth, e2, lim2], h2, ?_, tup_fit (by simp) fun x hx => ?_⟩
    · have : textEditB (.tup [.str [112, 117, 116], .str s]) = textB (.str s) := rfl
      simp only [editB, this, p, Bool.true_or]
    · have : x = .str [112, 117, 116] ∨ x = .str s := by simpa using hx
      rcases this with rfl | rfl
      · exact word_fit (by decide) (by decide)
      · exact text_fit p
  · obtain ⟨a, M2, a0, a1, e2, h2⟩ := number (n + 1) h1
    obtain ⟨b, M3, c0, c1, e3, h3⟩ := number (n + 1) h2
    obtain ⟨s, M4, e4, h4, p⟩ := text_p n h3
    refine ⟨.tup [.str [115, 112, 108, 105, 99, 101], .int a, .int b, .str s], M4, by simp [b26, start, e1, truth, e2, e3, e4, lim4], h4, ?_, tup_fit (by simp) fun x hx => ?_⟩
    · have : textEditB (.tup [.str [115, 112, 108, 105, 99, 101], .int a, .int b, .str s]) = (decide (0 ≤ a) && decide (0 ≤ b) && textB (.str s)) := rfl
      simp only [editB, this, p, decide_eq_true a0, decide_eq_true c0, Bool.and_self, Bool.true_or]
    · have : x = .str [115, 112, 108, 105, 99, 101] ∨ x = .int a ∨ x = .int b ∨ x = .str s := by simpa using hx
      rcases this with rfl | rfl | rfl | rfl
      · exact word_fit (by decide) (by decide)
      · exact int_fit a0 (by omega)
      · exact int_fit c0 (by omega)
      · exact text_fit p
  · refine ⟨.tup [.str [114, 101, 109, 111, 118, 101]], M1, by simp [b26, start, e1, truth, lim1], h1, by decide, tup_fit (by simp) fun x hx => ?_⟩
    have : x = .str [114, 101, 109, 111, 118, 101] := by simpa using hx
    rw [this]
    exact word_fit (by decide) (by decide)
  · obtain ⟨s, M2, e2, h2, p⟩ := name_p (n + 1) h1
    refine ⟨.tup [.str [116, 97, 107, 101], .str s], M2, by simp [b26, start, e1, truth, e2, lim2], h2, ?_, tup_fit (by simp) fun x hx => ?_⟩
    · have : editB (.tup [.str [116, 97, 107, 101], .str s]) = (textEditB (.tup [.str [116, 97, 107, 101], .str s]) || nameB0 (.str s)) := rfl
      rw [this, p, Bool.or_true]
    · have : x = .str [116, 97, 107, 101] ∨ x = .str s := by simpa using hx
      rcases this with rfl | rfl
      · exact word_fit (by decide) (by decide)
      · exact name_fit p
  · have n0 : (q == 0) = false := by rw [beq_eq_false_iff_ne]; omega
    have n1 : (q == 1) = false := by rw [beq_eq_false_iff_ne]; omega
    have n2 : (q == 2) = false := by rw [beq_eq_false_iff_ne]; omega
    have n3 : (q == 3) = false := by rw [beq_eq_false_iff_ne]; omega
    obtain ⟨a, M2, a0, a1, e2, h2⟩ := client_p (n + 1) h1
    obtain ⟨b, M3, c0, c1, e3, h3⟩ := number (n + 1) h2
    have fin : ∀ w : List Nat, itemAt [Val.str [97, 100, 111, 112, 116], .str [100, 114, 111, 112]] (q - 4) = some (.str w) → (w.length ≤ 96) → w.all (fun c => decide (32 ≤ c ∧ c ≤ 126)) = true → (w = wAdopt ∨ w = wDrop) → Drawn o ns T (back M (exs ⟨call pg (n + 5), pg.repr, pg.eqx, pg.sub⟩ b26 (start ⟨1, 2, b26⟩ [.ref 2]) M)) fun v => editB v = true ∧ fit 2 0 [] v := fun w hw ow ow2 hww => by
      refine ⟨.tup [.str w, .int a, .int (1 + b)], M3, by simp [b26, start, e1, truth, n0, n1, n2, n3, op_sub, op_add, lim2, lim3, asInt, hw, e2, e3], h3, ?_, tup_fit (by simp) fun x hx => ?_⟩
      · have p1 : decide (1 ≤ a) = true := decide_eq_true a0
        have p2 : decide (a ≤ 9) = true := decide_eq_true a1
        have p3 : decide (1 ≤ 1 + b) = true := decide_eq_true (by omega)
        have e0 : ∀ w, (w = wAdopt ∨ w = wDrop) → editB (.tup [.str w, .int a, .int (1 + b)]) = (textEditB (.tup [.str w, .int a, .int (1 + b)]) || (cliB (.int a) && fromB (.int (1 + b)) 1)) := by
          intro w hw
          rcases hw with rfl | rfl <;> rfl
        rw [e0 w hww]
        simp only [cliB, fromB, p1, p2, p3, Bool.and_self, Bool.or_true]
      · have : x = .str w ∨ x = .int a ∨ x = .int (1 + b) := by simpa using hx
        rcases this with rfl | rfl | rfl
        · exact word_fit ow ow2
        · exact int_fit (by omega) (by omega)
        · exact int_fit (by omega) (by omega)
    have hq2 : q = 4 ∨ q = 5 := by omega
    rcases hq2 with rfl | rfl
    · exact fin _ rfl (by decide) (by decide) (.inl rfl)
    · exact fin _ rfl (by decide) (by decide) (.inr rfl)
end K3
end K3GAS

section K3GBS
set_option Elab.async false
set_option linter.all false
set_option maxRecDepth 100000
set_option maxHeartbeats 0
namespace Mi
/-! ### an order of some values; what sorted makes of them -/
structure Ord (P : Val → Prop) : Prop where
  irr : ∀ x, P x → ltV x x = false
  tr : ∀ x y z, P x → P y → P z → ltV x y = true → ltV y z = true → ltV x z = true
  tri : ∀ x y, P x → P y → ltV x y = true ∨ ltV y x = true ∨ x = y
theorem srt_asc {P : Val → Prop} (o : Ord P) {xs : List Val} (h : ∀ x ∈ xs, P x) (nd : xs.Nodup) : (srtV xs).Pairwise (fun x y => ltV x y = true) := by
  obtain ⟨l, hl⟩ : ∃ l : List { x // P x }, l.map Subtype.val = xs := ⟨xs.pmap Subtype.mk h, by rw [List.map_pmap]; simp⟩
  have e : srtV xs = (l.mergeSort fun x y => !ltV y.1 x.1).map Subtype.val := by
    unfold srtV
    rw [← hl]
    exact (List.map_mergeSort (r := fun x y : { x // P x } => !ltV y.1 x.1) (s := fun x y => !ltV y x) (f := Subtype.val) (l := l) fun _ _ _ _ => rfl).symm
  have asym : ∀ x y, P x → P y → ltV x y = true → ltV y x = false := fun x y hx hy h1 => by
    cases h2 : ltV y x with
    | false => rfl
    | true => rw [← o.irr x hx, o.tr x y x hx hy hx h1 h2]
  have s : (l.mergeSort fun x y => !ltV y.1 x.1).Pairwise (fun x y => (!ltV y.1 x.1) = true) := by
    refine List.pairwise_mergeSort (le := fun x y : { x // P x } => !ltV y.1 x.1) (fun a b c h1 h2 => ?_) (fun a b => ?_) l
    · have h1 : ltV b.1 a.1 = false := by simpa using h1
      have h2 : ltV c.1 b.1 = false := by simpa using h2
      show (!ltV c.1 a.1) = true
      cases h3 : ltV c.1 a.1 with
      | false => rfl
      | true =>
        rcases o.tri a.1 b.1 a.2 b.2 with q | q | q
        · rw [o.tr c.1 a.1 b.1 c.2 a.2 b.2 h3 q] at h2; cases h2
        · rw [q] at h1; cases h1
        · rw [q] at h3; rw [h3] at h2; cases h2
    · show ((!ltV b.1 a.1) || (!ltV a.1 b.1)) = true
      cases h1 : ltV b.1 a.1 with
      | false => rfl
      | true => rw [asym _ _ b.2 a.2 h1]; rfl
  have nd2 : (srtV xs).Nodup := (List.mergeSort_perm xs _).nodup_iff.mpr nd
  rw [e] at nd2 ⊢
  rw [List.pairwise_map]
  have nd3 : (l.mergeSort fun x y => !ltV y.1 x.1).Pairwise (fun a b => a.1 ≠ b.1) := List.pairwise_map.mp nd2
  refine List.Pairwise.imp_of_mem (fun {a b} _ _ q => ?_) (s.and nd3)
  have q1 : ltV b.1 a.1 = false := by simpa using q.1
  rcases o.tri a.1 b.1 a.2 b.2 with z | z | z
  · exact z
  · rw [z] at q1; cases q1
  · exact absurd z q.2
theorem srt_mem {xs : List Val} {x : Val} : x ∈ srtV xs ↔ x ∈ xs := (List.mergeSort_perm xs _).mem_iff
theorem srt_len (xs : List Val) : (srtV xs).length = xs.length := (List.mergeSort_perm xs _).length_eq
theorem ord_str : Ord (fun x => ∃ s, x = .str s) where
  irr := fun x ⟨s, e⟩ => by subst e; simp [ltV, List.lt_irrefl]
  tr := fun x y z ⟨a, ea⟩ ⟨b, eb⟩ ⟨c, ec⟩ h1 h2 => by
    subst ea; subst eb; subst ec
    exact decide_eq_true (List.lt_trans (of_decide_eq_true h1) (of_decide_eq_true h2))
  tri := fun x y ⟨a, ea⟩ ⟨b, eb⟩ => by
    subst ea; subst eb
    by_cases h1 : a < b
    · exact .inl (decide_eq_true h1)
    · by_cases h2 : b < a
      · exact .inr (.inl (decide_eq_true h2))
      · exact .inr (.inr (by rw [List.le_antisymm (List.not_lt.mp h2) (List.not_lt.mp h1)]))
theorem ord_int : Ord (fun x => ∃ i, x = .int i) where
  irr := fun x ⟨s, e⟩ => by subst e; simp [ltV]
  tr := fun x y z ⟨a, ea⟩ ⟨b, eb⟩ ⟨c, ec⟩ h1 h2 => by
    subst ea; subst eb; subst ec
    have h1 : a < b := of_decide_eq_true h1
    have h2 : b < c := of_decide_eq_true h2
    exact decide_eq_true (by omega)
  tri := fun x y ⟨a, ea⟩ ⟨b, eb⟩ => by
    subst ea; subst eb
    by_cases h1 : a < b
    · exact .inl (decide_eq_true h1)
    · by_cases h2 : b < a
      · exact .inr (.inl (decide_eq_true h2))
      · exact .inr (.inr (by rw [show a = b by omega]))
/-! ### loops and turns over a list of ours -/
theorem rounds_onG {f : Val → St → Store → Out} {all : List Val} {g : Gd} (P : List Val → St → Store → Prop) (hst : ∀ xs σ M, P xs σ M → still M all g)
    (step : ∀ x xs σ M, P (x :: xs) σ M → ∃ σ' M', f x σ M = .nx σ' M' ∧ P xs σ' M') : ∀ xs σ M, P xs σ M → ∃ σ' M', rounds f all g xs σ M = .nx σ' M' ∧ P [] σ' M'
  | [], σ, M, h => ⟨σ, M, by unfold rounds; rw [if_pos (hst _ _ _ h)], h⟩
  | x :: xs, σ, M, h => by
    obtain ⟨σ1, M1, e, p⟩ := step x xs σ M h
    obtain ⟨σ2, M2, e2, p2⟩ := rounds_onG P hst step xs σ1 M1 p
    refine ⟨σ2, M2, ?_, p2⟩
    unfold rounds
    rw [if_pos (hst _ _ _ h), e, Out.turn_nx, e2]
inductive Sel (Q : Val → Val → Prop) : List Val → List Val → Prop
  | nil : Sel Q [] []
  | skip {x : Val} {xs ys : List Val} : Sel Q xs ys → Sel Q (x :: xs) ys
  | take {x y : Val} {xs ys : List Val} : Q x y → Sel Q xs ys → Sel Q (x :: xs) (y :: ys)
theorem Sel.len {Q : Val → Val → Prop} : ∀ {xs ys : List Val}, Sel Q xs ys → ys.length ≤ xs.length
  | _, _, .nil => Nat.le_refl _
  | _, _, .skip h => Nat.le_succ_of_le h.len
  | _, _, .take _ h => Nat.succ_le_succ h.len
theorem Sel.mem {Q : Val → Val → Prop} : ∀ {xs ys : List Val}, Sel Q xs ys → ∀ y ∈ ys, ∃ x ∈ xs, Q x y
  | _, _, .skip h, y, hy => let ⟨x, hx, q⟩ := h.mem y hy; ⟨x, List.mem_cons_of_mem _ hx, q⟩
  | _, _, .take q h, y, hy => by
    rcases List.mem_cons.mp hy with rfl | hy
    · exact ⟨_, List.mem_cons_self, q⟩
    · obtain ⟨x, hx, q2⟩ := h.mem y hy
      exact ⟨x, List.mem_cons_of_mem _ hx, q2⟩
theorem turns_sel {f : Val → Store → Res (Option Val)} {all : List Val} {g : Gd} {I : Store → Prop} {Q : Val → Val → Prop} (hst : ∀ M, I M → still M all g) :
    ∀ {xs : List Val} {M : Store}, (∀ x ∈ xs, ∀ M, I M → ∃ M', I M' ∧ (f x M = .ok none M' ∨ ∃ y, f x M = .ok (some y) M' ∧ Q x y)) → I M → ∃ ys M', turns f all g xs M = .ok ys M' ∧ I M' ∧ Sel Q xs ys
  | [], M, _, i => ⟨[], M, by unfold turns; rw [if_pos (hst _ i)], i, .nil⟩
  | x :: xs, M, h, i => by
    obtain ⟨M1, i1, q⟩ := h x List.mem_cons_self M i
    obtain ⟨ys, M2, e2, i2, s2⟩ := turns_sel (f := f) (all := all) hst (fun z hz => h z (List.mem_cons_of_mem _ hz)) i1
    rcases q with e1 | ⟨y, e1, q⟩
    · refine ⟨ys, M2, ?_, i2, .skip s2⟩
      unfold turns
      rw [if_pos (hst _ i), e1]
      simp only [Res.calm_ok, Res.bind_ok, e2]
    · refine ⟨y :: ys, M2, ?_, i2, .take q s2⟩
      unfold turns
      rw [if_pos (hst _ i), e1]
      simp only [Res.calm_ok, Res.bind_ok, e2]
end Mi
namespace K3
open Mi
open Classical
theorem S0.set {o : Obj} {ns : List Int} {T M : Store} (h : S0 o ns T M) (k : Nat) (ob : Obj) : S0 o ns (T.set k ob) (M.set (k + 3) ob) := by
  obtain ⟨a, b, c, ha, rfl⟩ := h
  exact ⟨a, b, c, ha, rfl⟩
theorem S0.push {o : Obj} {ns : List Int} {T M : Store} (h : S0 o ns T M) (X : Store) : S0 o ns (T ++ X) (M ++ X) := by
  obtain ⟨a, b, c, ha, rfl⟩ := h
  exact ⟨a, b, c, ha, rfl⟩
theorem S0.gt {o : Obj} {ns : List Int} {T M : Store} (h : S0 o ns T M) {j : Nat} {ob : Obj} (e : T[j]? = some ob) : M[j + 3]? = some ob := by
  rw [h.at (by omega)]; exact e
theorem set_last (T : Store) (a b : Obj) : (T ++ [a]).set T.length b = T ++ [b] := by
  rw [List.set_append_right _ _ (Nat.le_refl _)]
  simp
/-! ### keys -/
def pk (bs : List Bool) (xs : List Val) : Prop := xs.length = bs.length ∧ patOk bs xs
theorem pk_cons {b : Bool} {bs : List Bool} {xs : List Val} (h : pk (b :: bs) xs) : ∃ x r, xs = x :: r ∧ (if b then isS x else isW x) = true ∧ pk bs r := by
  cases xs with
  | nil => exact h.2.elim
  | cons x r => exact ⟨x, r, rfl, h.2.1, by simpa using h.1, h.2.2⟩
def atk (b : Bool) (x : Val) : Prop := (if b then isS x else isW x) = true
theorem ord_at (b : Bool) : Ord (atk b) := by
  cases b with
  | true =>
    have : ∀ x, atk true x ↔ ∃ s, x = .str s := fun x => ⟨fun h => isS_str (by simpa [atk] using h), fun ⟨s, e⟩ => by subst e; rfl⟩
    exact ⟨fun x h => ord_str.irr x ((this x).mp h), fun x y z a b c => ord_str.tr x y z ((this x).mp a) ((this y).mp b) ((this z).mp c), fun x y a b => ord_str.tri x y ((this x).mp a) ((this y).mp b)⟩
  | false =>
    have : ∀ x, atk false x ↔ ∃ s, x = .int s := fun x => ⟨fun h => isW_int (by simpa [atk] using h), fun ⟨s, e⟩ => by subst e; rfl⟩
    exact ⟨fun x h => ord_int.irr x ((this x).mp h), fun x y z a b c => ord_int.tr x y z ((this x).mp a) ((this y).mp b) ((this z).mp c), fun x y a b => ord_int.tri x y ((this x).mp a) ((this y).mp b)⟩
theorem at_eq {b : Bool} {x y : Val} (hx : atk b x) (hy : atk b y) : eqV x y = decide (x = y) := by
  cases b with
  | true =>
    obtain ⟨s, rfl⟩ := isS_str (by simpa [atk] using hx)
    obtain ⟨t, rfl⟩ := isS_str (by simpa [atk] using hy)
    show (s == t) = _
    by_cases e : s = t
    · subst e; simp
    · have : ¬ Val.str s = .str t := fun z => e (Val.str.inj z)
      rw [decide_eq_false this, beq_eq_false_iff_ne.mpr e]
  | false =>
    obtain ⟨s, rfl⟩ := isW_int (by simpa [atk] using hx)
    obtain ⟨t, rfl⟩ := isW_int (by simpa [atk] using hy)
    show (s == t) = _
    by_cases e : s = t
    · subst e; simp
    · have : ¬ Val.int s = .int t := fun z => e (Val.int.inj z)
      rw [decide_eq_false this, beq_eq_false_iff_ne.mpr e]
theorem at_key {b : Bool} {x y : Val} (hx : atk b x) (hy : atk b y) : keyE x y = decide (x = y) := by
  rw [← at_eq hx hy]
  cases b with
  | true =>
    obtain ⟨s, rfl⟩ := isS_str (by simpa [atk] using hx)
    obtain ⟨t, rfl⟩ := isS_str (by simpa [atk] using hy)
    rfl
  | false =>
    obtain ⟨s, rfl⟩ := isW_int (by simpa [atk] using hx)
    obtain ⟨t, rfl⟩ := isW_int (by simpa [atk] using hy)
    rfl
theorem pk_keyV : ∀ {bs : List Bool} {xs : List Val}, pk bs xs → xs.all Mi.keyV = true
  | [], [], _ => rfl
  | [], _ :: _, h => by simp [pk] at h
  | b :: bs, xs, h => by
    obtain ⟨x, r, rfl, h1, h2⟩ := pk_cons h
    rw [List.all_cons, pk_keyV h2, Bool.and_true]
    cases b with
    | true => obtain ⟨s, rfl⟩ := isS_str (by simpa using h1); rfl
    | false => obtain ⟨s, rfl⟩ := isW_int (by simpa using h1); rfl
theorem pk_keysE : ∀ {bs : List Bool} {xs ys : List Val}, pk bs xs → pk bs ys → keysE xs ys = decide (xs = ys)
  | [], [], [], _, _ => rfl
  | [], _ :: _, _, h, _ => by simp [pk] at h
  | [], [], _ :: _, _, h => by simp [pk] at h
  | b :: bs, xs, ys, h, h' => by
    obtain ⟨x, r, rfl, h1, h2⟩ := pk_cons h
    obtain ⟨y, q, rfl, h3, h4⟩ := pk_cons h'
    show (keyE x y && keysE r q) = _
    rw [at_key h1 h3, pk_keysE h2 h4]
    by_cases e : x = y
    · subst e
      by_cases e2 : r = q
      · subst e2; simp
      · simp [e2]
    · simp [e]
theorem ltVs_cons {b : Bool} {x y : Val} {r q : List Val} (hx : atk b x) (hy : atk b y) : ltVs (x :: r) (y :: q) = if x = y then ltVs r q else ltV x y := by
  show (if eqV x y then ltVs r q else ltV x y) = _
  rw [at_eq hx hy]
  by_cases e : x = y
  · rw [if_pos (decide_eq_true e), if_pos e]
  · rw [if_neg (by simp [e]), if_neg e]
theorem ord_pk : ∀ bs : List Bool, (∀ x, pk bs x → ltVs x x = false) ∧ (∀ x y z, pk bs x → pk bs y → pk bs z → ltVs x y = true → ltVs y z = true → ltVs x z = true) ∧ (∀ x y, pk bs x → pk bs y → ltVs x y = true ∨ ltVs y x = true ∨ x = y)
  | [] => by
    have e : ∀ x, pk [] x → x = [] := fun x h => List.length_eq_zero_iff.mp h.1
    refine ⟨fun x h => by rw [e x h]; rfl, fun x y z hx hy hz h _ => (by rw [e x hx, e y hy] at h; cases h), fun x y hx hy => .inr (.inr (by rw [e x hx, e y hy]))⟩
  | b :: bs => by
    obtain ⟨i1, i2, i3⟩ := ord_pk bs
    have o := ord_at b
    refine ⟨fun x h => ?_, fun x y z hx hy hz h1 h2 => ?_, fun x y hx hy => ?_⟩
    · obtain ⟨x, r, rfl, h1, h2⟩ := pk_cons h
      rw [ltVs_cons (b := b) h1 h1, if_pos rfl]
      exact i1 r h2
    · obtain ⟨x, r, rfl, a1, a2⟩ := pk_cons hx
      obtain ⟨y, q, rfl, b1, b2⟩ := pk_cons hy
      obtain ⟨z, p, rfl, c1, c2⟩ := pk_cons hz
      rw [ltVs_cons (b := b) a1 b1] at h1
      rw [ltVs_cons (b := b) b1 c1] at h2
      rw [ltVs_cons (b := b) a1 c1]
      by_cases e1 : x = y
      · subst e1
        rw [if_pos rfl] at h1
        by_cases e2 : x = z
        · subst e2
          rw [if_pos rfl] at h2 ⊢
          exact i2 _ _ _ a2 b2 c2 h1 h2
        · rw [if_neg e2] at h2 ⊢
          exact h2
      · rw [if_neg e1] at h1
        by_cases e2 : y = z
        · subst e2
          rw [if_neg e1]
          exact h1
        · rw [if_neg e2] at h2
          have h3 := o.tr _ _ _ a1 b1 c1 h1 h2
          have e3 : x ≠ z := fun e => by subst e; rw [o.irr x a1] at h3; cases h3
          rw [if_neg e3]
          exact h3
    · obtain ⟨x, r, rfl, a1, a2⟩ := pk_cons hx
      obtain ⟨y, q, rfl, b1, b2⟩ := pk_cons hy
      rw [ltVs_cons (b := b) a1 b1, ltVs_cons (b := b) b1 a1]
      by_cases e1 : x = y
      · subst e1
        rw [if_pos rfl, if_pos rfl]
        rcases i3 r q a2 b2 with z | z | z
        · exact .inl z
        · exact .inr (.inl z)
        · exact .inr (.inr (by rw [z]))
      · rw [if_neg e1, if_neg (Ne.symm e1)]
        rcases o.tri x y a1 b1 with z | z | z
        · exact .inl z
        · exact .inr (.inl z)
        · exact absurd z e1
def kt (bs : List Bool) (v : Val) : Prop := ∃ xs, v = .tup xs ∧ pk bs xs
theorem ord_kt (bs : List Bool) : Ord (kt bs) where
  irr := fun x ⟨a, e, h⟩ => by subst e; exact (ord_pk bs).1 a h
  tr := fun x y z ⟨a, ea, ha⟩ ⟨b, eb, hb⟩ ⟨c, ec, hc⟩ h1 h2 => by
    subst ea; subst eb; subst ec
    exact (ord_pk bs).2.1 a b c ha hb hc h1 h2
  tri := fun x y ⟨a, ea, ha⟩ ⟨b, eb, hb⟩ => by
    subst ea; subst eb
    rcases (ord_pk bs).2.2 a b ha hb with z | z | z
    · exact .inl z
    · exact .inr (.inl z)
    · exact .inr (.inr (by rw [z]))
theorem asc_of : ∀ {ks : List (List Val)}, ks.Pairwise (fun a b => ltVs a b = true) → ascB ks = true
  | [], _ => rfl
  | [_], _ => rfl
  | a :: b :: r, h => by
    obtain ⟨h1, h2⟩ := List.pairwise_cons.mp h
    show (ltVs a b && ascB (b :: r)) = true
    rw [h1 b List.mem_cons_self, asc_of h2]
    rfl
theorem pk_alk {bs : List Bool} {x y : List Val} (hx : pk bs x) (hy : pk bs y) : alk (.tup x) (.tup y) = true := by
  have := (pat_alks hx.2 hy.2).1
  rw [List.take_of_length_le (by rw [hx.1]; exact Nat.le_refl _), List.take_of_length_le (by rw [hy.1]; exact Nat.le_refl _)] at this
  simpa [alk] using this
theorem pk_refs {bs : List Bool} {x : List Val} (hx : pk bs x) : noRef (.tup x) = true ∧ depth (.tup x) = 1 := by
  obtain ⟨_, h2, h3⟩ := pat_alks hx.2 hx.2
  rw [List.take_of_length_le (by rw [hx.1]; exact Nat.le_refl _)] at h2 h3
  exact ⟨by simpa [noRef] using h2, by simp [depth, h3]⟩
theorem noRefs_all {xs : List Val} (h : ∀ x ∈ xs, noRef x = true) : noRefs xs = true := by
  induction xs with
  | nil => rfl
  | cons x xs ih =>
    simp only [noRefs, h x List.mem_cons_self, ih fun y hy => h y (List.mem_cons_of_mem _ hy), Bool.and_self]
theorem depths_all {xs : List Val} {d : Nat} (h : ∀ x ∈ xs, depth x ≤ d) : depths xs ≤ d := by
  induction xs with
  | nil => exact Nat.zero_le _
  | cons x xs ih =>
    have h1 := h x List.mem_cons_self
    have h2 := ih fun y hy => h y (List.mem_cons_of_mem _ hy)
    simp only [depths]
    omega
theorem srtOk_kt {b : Bool} {bs : List Bool} {ks : List (List Val)} (h : ∀ k ∈ ks, pk (b :: bs) k) : srtOk (ks.map Val.tup) = true := by
  have hm : ∀ x ∈ ks.map Val.tup, ∃ k, x = .tup k ∧ pk (b :: bs) k := fun x hx => by
    obtain ⟨k, hk, rfl⟩ := List.mem_map.mp hx
    exact ⟨k, rfl, h k hk⟩
  unfold srtOk
  have n1 : noRefs (ks.map Val.tup) = true := noRefs_all fun x hx => by obtain ⟨k, rfl, p⟩ := hm x hx; exact (pk_refs p).1
  have n2 : ((ks.map Val.tup).all fun x => (ks.map Val.tup).all fun y => alk x y) = true := List.all_eq_true.mpr fun x hx => List.all_eq_true.mpr fun y hy => by
    obtain ⟨k, rfl, p⟩ := hm x hx
    obtain ⟨l, rfl, q⟩ := hm y hy
    exact pk_alk p q
  have n3 : (ks.map Val.tup).all tupNe = true := List.all_eq_true.mpr fun x hx => by
    obtain ⟨k, rfl, p⟩ := hm x hx
    obtain ⟨a, r, rfl, _⟩ := pk_cons p
    rfl
  have n4 : depths (ks.map Val.tup) ≤ 58 := Nat.le_trans (depths_all (d := 1) fun x hx => by obtain ⟨k, rfl, p⟩ := hm x hx; rw [(pk_refs p).2]; exact Nat.le_refl _) (by decide)
  rw [n1, n2, n3, decide_eq_true n4]
  rfl
end K3
end K3GBS

section K3GCS
set_option Elab.async false
set_option linter.all false
set_option maxRecDepth 100000
set_option maxHeartbeats 0
namespace K3
open Mi
open Classical
theorem leaf_cnt {v : Val} (h : fit 1 0 [] v) : cnt 2 [] v ≤ 5 := by
  rw [cnt_le' (show 1 ≤ 2 by omega) h]
  exact cnt_fit h
theorem two_cnt {v : Val} (h : fit 2 0 [] v) : cnt 2 [] v ≤ 21 := cnt_fit h
/-! ### further drawn parts -/
theorem content_p (n : Nat) {o : Obj} {ns : List Int} {T M : Store} (h : S0 o ns T M) : Drawn o ns T (call pg (n + 6) 73 [.ref 2] M) fun v => conB v = true ∧ fit 1 0 [] v := by
  rw [call_s pg (n + 5) 73 _ _ ⟨1, 1, b73⟩ rfl rfl]
  obtain ⟨q, M1, q0, q1, e1, h1⟩ := draw (n + 2) 4 (by decide) (by decide) h
  by_cases hq : q = 0
  · subst hq
    exact ⟨.non, M1, by simp [b73, start, e1, truth], h1, rfl, trivial⟩
  · have hz : (q == 0) = false := by rw [beq_eq_false_iff_ne]; exact hq
    obtain ⟨s, M2, e2, h2, p⟩ := text_p n h1
    refine ⟨.str s, M2, by simp [b73, start, e1, truth, hz, e2], h2, ?_, text_fit p⟩
    simp only [conB, p, Bool.or_true]
theorem base_p (n : Nat) {o : Obj} {ns : List Int} {T M : Store} (h : S0 o ns T M) : Drawn o ns T (call pg (n + 6) 74 [.ref 2] M) fun v => baseB v = true ∧ fit 2 0 [] v := by
  rw [call_s pg (n + 5) 74 _ _ ⟨1, 1, b74⟩ rfl rfl]
  obtain ⟨q, M1, q0, q1, e1, h1⟩ := draw (n + 2) 3 (by decide) (by decide) h
  by_cases hq : q = 0
  · subst hq
    exact ⟨.non, M1, by simp [b74, start, e1, truth], h1, rfl, trivial⟩
  · have hz : (q == 0) = false := by rw [beq_eq_false_iff_ne]; exact hq
    obtain ⟨v, M2, e2, h2, p, f⟩ := stamp_p n h1
    refine ⟨v, M2, by simp [b74, start, e1, truth, hz, e2], h2, ?_, f⟩
    simp only [baseB, p, Bool.or_true]
theorem kind_p (n : Nat) {o : Obj} {ns : List Int} {T M : Store} (h : S0 o ns T M) : Drawn o ns T (call pg (n + 4) 75 [.ref 2] M) fun v => wordIn wKinds v = true ∧ fit 1 0 [] v := by
  rw [call_s pg (n + 3) 75 _ _ ⟨1, 1, b75⟩ rfl rfl]
  obtain ⟨q, M1, q0, q1, e1, h1⟩ := draw n 2 (by decide) (by decide) h
  have fin : ∀ w : List Nat, itemAt [Val.str [114, 101, 97, 100], .str [119, 114, 105, 116, 101]] q = some (.str w) → wordIn wKinds (.str w) = true → fit 1 0 [] (.str w) → Drawn o ns T (back M (exs ⟨call pg (n + 3), pg.repr, pg.eqx, pg.sub⟩ b75 (start ⟨1, 1, b75⟩ [.ref 2]) M)) fun v => wordIn wKinds v = true ∧ fit 1 0 [] v := fun w hw hk hf =>
    ⟨.str w, M1, by simp [b75, start, e1, lim2, asInt, hw], h1, hk, hf⟩
  have hq : q = 0 ∨ q = 1 := by omega
  rcases hq with rfl | rfl
  · exact fin _ rfl (by decide) (word_fit (by decide) (by decide))
  · exact fin _ rfl (by decide) (word_fit (by decide) (by decide))
theorem word_p (n : Nat) {o : Obj} {ns : List Int} {T M : Store} (h : S0 o ns T M) : Drawn o ns T (call pg (n + 4) 90 [.ref 2] M) fun v => wordIn wWords v = true ∧ fit 1 0 [] v := by
  rw [call_s pg (n + 3) 90 _ _ ⟨1, 1, b90⟩ rfl rfl]
  obtain ⟨q, M1, q0, q1, e1, h1⟩ := draw n 4 (by decide) (by decide) h
  have fin : ∀ w : List Nat, itemAt [Val.str [97, 112, 112, 108, 105, 101, 100], .str [97, 115, 105, 100, 101], .str [117, 110, 102, 105, 116], .str [100, 114, 111, 112, 112, 101, 100]] q = some (.str w) → wordIn wWords (.str w) = true → fit 1 0 [] (.str w) → Drawn o ns T (back M (exs ⟨call pg (n + 3), pg.repr, pg.eqx, pg.sub⟩ b90 (start ⟨1, 1, b90⟩ [.ref 2]) M)) fun v => wordIn wWords v = true ∧ fit 1 0 [] v := fun w hw hk hf =>
    ⟨.str w, M1, by simp [b90, start, e1, lim4, asInt, hw], h1, hk, hf⟩
  have hq : q = 0 ∨ q = 1 ∨ q = 2 ∨ q = 3 := by omega
  rcases hq with rfl | rfl | rfl | rfl
  · exact fin _ rfl (by decide) (word_fit (by decide) (by decide))
  · exact fin _ rfl (by decide) (word_fit (by decide) (by decide))
  · exact fin _ rfl (by decide) (word_fit (by decide) (by decide))
  · exact fin _ rfl (by decide) (word_fit (by decide) (by decide))
theorem talk_p (n : Nat) {o : Obj} {ns : List Int} {T M : Store} (h : S0 o ns T M) : Drawn o ns T (call pg (n + 5) 76 [.ref 2] M) fun v => talkB v = true ∧ fit 2 0 [] v := by
  rw [call_s pg (n + 4) 76 _ _ ⟨1, 1, b76⟩ rfl rfl]
  obtain ⟨q, M1, q0, q1, e1, h1⟩ := draw (n + 1) 3 (by decide) (by decide) h
  obtain ⟨a, M2, a0, a1, e2, h2⟩ := number n h1
  refine ⟨.tup [.int q, .int a], M2, by simp [b76, start, e1, e2, lim2], h2, ?_, tup_fit (by simp) fun x hx => ?_⟩
  · simp only [talkB, fromB, decide_eq_true q0, decide_eq_true a0, Bool.and_self]
  · have : x = .int q ∨ x = .int a := by simpa using hx
    rcases this with rfl | rfl
    · exact int_fit q0 (by omega)
    · exact int_fit a0 (by omega)
/-- a list of drawn names at p -/
structure Names (T : Store) (p : Nat) (xs : List Val) : Prop where
  at_ : T[p]? = some (.lst xs)
  nm : ∀ x ∈ xs, ∃ s, x = .str s ∧ nameB0 (.str s) = true
  pos : 0 < xs.length
  len : xs.length ≤ 34
  asc : xs.Pairwise (fun x y => ltV x y = true)
theorem Names.more {T X : Store} {p : Nat} {xs : List Val} (h : Names T p xs) : Names (T ++ X) p xs := by
  refine ⟨?_, h.nm, h.pos, h.len, h.asc⟩
  rw [List.getElem?_append_left (List.getElem?_eq_some_iff.mp h.at_).1]
  exact h.at_
theorem of_p (n : Nat) {o : Obj} {ns : List Int} {T M : Store} {p : Nat} {xs : List Val} (h : S0 o ns T M) (hn : Names T p xs) : Drawn o ns T (call pg (n + 4) 89 [.ref 2, .ref (p + 3)] M) fun v => v ∈ xs ∧ nameB0 v = true ∧ fit 1 0 [] v := by
  rw [call_s pg (n + 3) 89 _ _ ⟨2, 2, b89⟩ rfl rfl]
  have l1 := hn.len
  have l2 := hn.pos
  obtain ⟨q, M1, q0, q1, e1, h1⟩ := draw n (xs.length : Nat) (by omega) (by omega) h
  have h2 : q.toNat < xs.length := by omega
  have g0 : M[p + 3]? = some (.lst xs) := h.gt hn.at_
  have g1 : M1[p + 3]? = some (.lst xs) := h1.gt hn.at_
  have ei : itemAt xs q = some xs[q.toNat] := by
    unfold itemAt place
    rw [if_pos q0, if_pos q1]
    simp [h2]
  have hm : xs[q.toNat] ∈ xs := List.getElem_mem h2
  obtain ⟨s, es, hs⟩ := hn.nm _ hm
  refine ⟨xs[q.toNat], M1, ?_, h1, hm, by rw [es]; exact hs, by rw [es]; exact name_fit hs⟩
  simp [b89, start, bi1, lenV, g0, e1, ixV, g1, ei]
theorem max_run {a b : Int} {M : Store} : bin1 .max (.int a) (.int b) M = .ok (.int (if b > a then b else a)) M := rfl
theorem lease_p (n : Nat) {o : Obj} {ns : List Int} {T M : Store} {p : Nat} {xs : List Val} (h : S0 o ns T M) (hn : Names T p xs) (c : Int) (c0 : 0 ≤ c) (c1 : c ≤ 100000000000) : Drawn o ns T (call pg (n + 6) 92 [.ref 2, .ref (p + 3), .int c] M) fun v => formB fLease v = true ∧ fit 3 1 [] v ∧ cnt 3 [] v ≤ 50 ∧ (∃ ys, v = .tup ys ∧ ys.length = 5) := by
  rw [call_s pg (n + 5) 92 _ _ ⟨3, 4, b92⟩ rfl rfl]
  obtain ⟨q, M1, q0, q1, e1, h1⟩ := draw (n + 2) 12 (by decide) (by decide) h
  obtain ⟨a, M2, e2, h2, am, an, af⟩ := of_p (n + 1) h1 hn
  obtain ⟨b, M3, b0, b1, e3, h3⟩ := client_p (n + 1) h2
  obtain ⟨k, M4, e4, h4, kk, kf⟩ := kind_p (n + 1) h3
  obtain ⟨t, M5, e5, h5, tt, tf⟩ := talk_p n h4
  have hu : 0 ≤ (if c + q - 2 > 0 then c + q - 2 else 0) ∧ (if c + q - 2 > 0 then c + q - 2 else 0) ≤ 200000000000 := by
    split <;> omega
  generalize hue : (if c + q - 2 > 0 then c + q - 2 else (0 : Int)) = u at hu
  have em : bin1 .max (.int 0) (.int (c + q - 2)) M1 = .ok (.int u) M1 := by rw [max_run, hue]
  refine ⟨.tup [a, .int b, k, t, .int u], M5, ?_, h5, ?_, tup_fit (by simp) fun x hx => ?_, ?_, ⟨_, rfl, rfl⟩⟩
  · simp [b92, start, e1, op_add, op_sub, em, e2, e3, e4, e5, lim5]
  · have p1 : cliB (.int b) = true := by simp [cliB, b0, b1]
    have p2 : fromB (.int u) 0 = true := by simp [fromB, hu.1]
    show (nameB0 a && (cliB (.int b) && (wordIn wKinds k && (talkB t && (fromB (.int u) 0 && true))))) = true
    rw [an, p1, kk, tt, p2]
    rfl
  · have : x = a ∨ x = .int b ∨ x = k ∨ x = t ∨ x = .int u := by simpa using hx
    rcases this with rfl | rfl | rfl | rfl | rfl
    · exact fit_le (by omega) (by omega) af
    · exact int_fit (by omega) (by omega)
    · exact fit_le (by omega) (by omega) kf
    · exact fit_le (by omega) (by omega) tf
    · exact int_fit hu.1 hu.2
  · have c1 := leaf_cnt af
    have c2 := leaf_cnt kf
    have c3 := two_cnt tf
    have c4 : ∀ i : Int, cnt 2 [] (.int i) = 1 := fun _ => rfl
    rw [cnt_tup]
    simp only [List.map_cons, List.map_nil, List.sum_cons, List.sum_nil, c4]
    omega
theorem aside_p (n : Nat) {o : Obj} {ns : List Int} {T M : Store} {p : Nat} {xs : List Val} (h : S0 o ns T M) (hn : Names T p xs) : Drawn o ns T (call pg (n + 7) 93 [.ref 2, .ref (p + 3)] M) fun v => formB fAside v = true ∧ fit 3 1 [] v ∧ cnt 3 [] v ≤ 50 ∧ (∃ ys, v = .tup ys ∧ ys.length = 5) := by
  rw [call_s pg (n + 6) 93 _ _ ⟨2, 2, b93⟩ rfl rfl]
  obtain ⟨b, M3, b0, b1, e3, h3⟩ := client_p (n + 2) h
  obtain ⟨q, M1, q0, q1, e1, h1⟩ := draw (n + 3) 4 (by decide) (by decide) h3
  obtain ⟨a, M2, e2, h2, am, an, af⟩ := of_p (n + 2) h1 hn
  obtain ⟨k, M4, e4, h4, kk, kf⟩ := base_p n h2
  obtain ⟨t, M5, e5, h5, tt, tf⟩ := edit_p n h4
  refine ⟨.tup [.int b, .int (1 + q), a, k, t], M5, ?_, h5, ?_, tup_fit (by simp) fun x hx => ?_, ?_, ⟨_, rfl, rfl⟩⟩
  · simp [b93, start, e1, op_add, e2, e3, e4, e5, lim5]
  · have p1 : cliB (.int b) = true := by simp [cliB, b0, b1]
    have p2 : fromB (.int (1 + q)) 1 = true := by simp [fromB]; omega
    show (cliB (.int b) && (fromB (.int (1 + q)) 1 && (nameB0 a && (baseB k && (editB t && true))))) = true
    rw [an, p1, kk, tt, p2]
    rfl
  · have : x = .int b ∨ x = .int (1 + q) ∨ x = a ∨ x = k ∨ x = t := by simpa using hx
    rcases this with rfl | rfl | rfl | rfl | rfl
    · exact int_fit (by omega) (by omega)
    · exact int_fit (by omega) (by omega)
    · exact fit_le (by omega) (by omega) af
    · exact fit_le (by omega) (by omega) kf
    · exact fit_le (by omega) (by omega) tf
  · have c1 := leaf_cnt af
    have c2 := two_cnt kf
    have c3 := two_cnt tf
    have c4 : ∀ i : Int, cnt 2 [] (.int i) = 1 := fun _ => rfl
    rw [cnt_tup]
    simp only [List.map_cons, List.map_nil, List.sum_cons, List.sum_nil, c4]
    omega
/-! ### names drawn, each once, ascending -/
theorem b72_eq : b72 = .cons (.set 1 (.lst (.disp .nil))) (.cons (.loop (.one 2) (.seq (.var 0)) (.cons (.ite (.cmp .notIn (.var 2) (.var 1)) (.cons (.expr (.mtd .append (.var 1) (.cons (.var 2) .nil))) .nil) .nil) .nil)) (.cons (.ret (.lst (.srt (.var 1)))) .nil)) := rfl
def isName (x : Val) : Prop := ∃ s, x = .str s ∧ nameB0 (.str s) = true
theorem notIn_str {xs : List Val} {x : Val} {M : Store} {d : Nat} (hx : isName x) (h : ∀ y ∈ xs, isName y) (e : M[d]? = some (.lst xs)) : cmpV .notIn x (.ref d) M = some (!decide (x ∈ xs)) := by
  obtain ⟨s, rfl, _⟩ := hx
  have h1 : cmpV .notIn (.str s) (.ref d) M = inl1 true (.str s) xs := by
    have : cmpV .notIn (.str s) (.ref d) M = (match M[d]? with | some (.lst xs) => inl1 true (.str s) xs | _ => none) := by
      cases s with
      | nil => rfl
      | cons a r => cases r <;> rfl
    rw [this, e]
  have n1 : noRefs xs = true := noRefs_all fun y hy => by obtain ⟨t, rfl, _⟩ := h y hy; rfl
  have n2 : depths xs ≤ 59 := Nat.le_trans (depths_all (d := 0) fun y hy => by obtain ⟨t, rfl, _⟩ := h y hy; exact Nat.le_refl _) (by decide)
  have n3 : (xs.any fun z => eqV z (.str s)) = decide (Val.str s ∈ xs) := by
    by_cases hm : Val.str s ∈ xs
    · rw [decide_eq_true hm, List.any_eq_true]
      exact ⟨_, hm, by simp [eqV]⟩
    · rw [decide_eq_false hm, List.any_eq_false]
      intro y hy
      obtain ⟨t, rfl, _⟩ := h y hy
      simp only [eqV, beq_iff_eq]
      intro z
      rw [z] at hy
      exact hm hy
  rw [h1]
  unfold inl1
  rw [n1, decide_eq_true n2, n3]
  rfl
theorem unlike_p (n : Nat) {o : Obj} {ns : List Int} {T M : Store} {p : Nat} {xs : List Val} (h : S0 o ns T M) (hp : T[p]? = some (.lst xs)) (hx : ∀ x ∈ xs, isName x) (hpos : 0 < xs.length) (hlen : xs.length ≤ 34) :
    ∃ ys X M', call pg (n + 1) 72 [.ref (p + 3)] M = .ok (.ref (T.length + 1 + 3)) M' ∧ S0 o ns (T ++ X) M' ∧ X.length = 2 ∧ Names (T ++ X) (T.length + 1) ys := by
  rw [call_s pg n 72 _ _ ⟨1, 3, b72⟩ rfl rfl]
  show ∃ ys X M', back M (exs (cfg n) b72 [some (.ref (p + 3)), none, none] M) = _ ∧ _
  rw [b72_eq]
  have hpl : p < T.length := (List.getElem?_eq_some_iff.mp hp).1
  have hm := h.len
  rw [seq_nx (σ1 := [some (.ref (p + 3)), some (.ref (T.length + 3)), none]) (M1 := M ++ [.lst []]) (by
    rw [set_s (lst_s (xs := []) (M1 := M) (by rw [sl_disp, ss_nil, Res.bind_ok, if_pos (by simp)]))]
    rw [show M.length = T.length + 3 by omega]; rfl)]
  let P : List Val → St → Store → Prop := fun rest σ M2 => ∃ fs s2, σ = [some (.ref (p + 3)), some (.ref (T.length + 3)), s2] ∧ S0 o ns (T ++ [.lst fs]) M2 ∧ (∀ y ∈ fs, isName y) ∧ fs.Nodup ∧ fs.length + rest.length ≤ xs.length ∧ (∀ y ∈ rest, isName y) ∧ (0 < fs.length ∨ rest.length = xs.length)
  have hst : ∀ rest σ M2, P rest σ M2 → still M2 xs [(p + 3, xs)] := fun rest σ M2 ⟨fs, s2, _, h2, _⟩ => ⟨h2.gt (by rw [List.getElem?_append_left hpl]; exact hp), trivial⟩
  have hev : evS (cfg n) (.seq (.var 0)) [some (.ref (p + 3)), some (.ref (T.length + 3)), none] (M ++ [.lst []]) = .ok (xs, [(p + 3, xs)]) (M ++ [.lst []]) := by
    have g : (M ++ [Obj.lst []])[p + 3]? = some (.lst xs) := (h.push [.lst []]).gt (by rw [List.getElem?_append_left hpl]; exact hp)
    rw [sS_seq, s_var]
    simp only [List.getElem?_cons_zero, Res.bind_ok, itemsOf, g, ofOpt_some]
  obtain ⟨σ', M', e1, fs, s2, rfl, h2, f1, f2, f3, _, f4⟩ := rounds_onG (f := lpF (cfg n) (.one 2) (.cons (.ite (.cmp .notIn (.var 2) (.var 1)) (.cons (.expr (.mtd .append (.var 1) (.cons (.var 2) .nil))) .nil) .nil) .nil)) (all := xs) (g := [(p + 3, xs)]) P hst (fun x rest σ M2 ⟨fs, s2, eσ, h2, f1, f2, f3, f4, f5⟩ => by
    subst eσ
    have g : M2[T.length + 3]? = some (.lst fs) := h2.gt (by simp)
    have hxn : isName x := f4 x List.mem_cons_self
    rw [lpF_one]
    show ∃ σ' M', exs (cfg n) _ [some (.ref (p + 3)), some (.ref (T.length + 3)), some x] M2 = _ ∧ _
    have c1 : ev (cfg n) (.cmp .notIn (.var 2) (.var 1)) [some (.ref (p + 3)), some (.ref (T.length + 3)), some x] M2 = .ok (.bl (!decide (x ∈ fs))) M2 :=
      cmp_s (x := x) (y := .ref (T.length + 3)) (M1 := M2) (M2 := M2) (by rw [s_var]; rfl) (by rw [s_var]; rfl) (notIn_str hxn f1 g)
    by_cases hin : x ∈ fs
    · rw [decide_eq_true hin] at c1
      refine ⟨[some (.ref (p + 3)), some (.ref (T.length + 3)), some x], M2, ?_, fs, some x, rfl, h2, f1, f2, by simp at f3; omega, fun y hy => f4 y (List.mem_cons_of_mem _ hy), .inl (List.length_pos_of_mem hin)⟩
      rw [seq_nx (by rw [ite_f c1, xs_nil]), xs_nil]
    · rw [decide_eq_false hin] at c1
      have hl : fs.length < LIM := by rw [lim_val]; simp at f3; omega
      have e2 : ev (cfg n) (.mtd .append (.var 1) (.cons (.var 2) .nil)) [some (.ref (p + 3)), some (.ref (T.length + 3)), some x] M2 = .ok .non (M2.set (T.length + 3) (.lst (fs ++ [x]))) := by
        have il : isLst M2 (.ref (T.length + 3)) = true := by simp [isLst, g]
        rw [s_mtd, s_var]
        simp only [List.getElem?_cons_succ, List.getElem?_cons_zero, Res.bind_ok, il, if_true, ss_cons, s_var, ss_nil]
        simp only [mtd1, g, hl, if_true]
      have h3 : S0 o ns (T ++ [.lst (fs ++ [x])]) (M2.set (T.length + 3) (.lst (fs ++ [x]))) := by
        have := h2.set T.length (.lst (fs ++ [x]))
        rwa [set_last] at this
      refine ⟨[some (.ref (p + 3)), some (.ref (T.length + 3)), some x], M2.set (T.length + 3) (.lst (fs ++ [x])), ?_, fs ++ [x], some x, rfl, h3, fun y hy => ?_, ?_, by simp at f3 ⊢; omega, fun y hy => f4 y (List.mem_cons_of_mem _ hy), .inl (by simp)⟩
      · rw [seq_nx (by rw [ite_t c1, seq_nx (expr_s e2), xs_nil]), xs_nil]
      · rcases List.mem_append.mp hy with hy | hy
        · exact f1 y hy
        · rw [List.mem_singleton.mp hy]; exact hxn
      · rw [List.nodup_append]
        refine ⟨f2, by simp, fun a ha b hb => ?_⟩
        rw [List.mem_singleton.mp hb]
        intro e
        rw [e] at ha
        exact hin ha) xs [some (.ref (p + 3)), some (.ref (T.length + 3)), none] (M ++ [.lst []]) ⟨[], none, rfl, h.push [.lst []], fun y hy => (by cases hy), List.nodup_nil, by simp, hx, .inr rfl⟩
  rw [seq_nx (σ1 := [some (.ref (p + 3)), some (.ref (T.length + 3)), s2]) (M1 := M') (by rw [x_loop0, hev, Out.on_ok]; exact e1)]
  have fpos : 0 < fs.length := by
    rcases f4 with f4 | f4
    · exact f4
    · have : xs.length = 0 := by simpa using f4.symm
      omega
  have g : M'[T.length + 3]? = some (.lst fs) := h2.gt (by simp)
  have hs : ∀ x ∈ fs, ∃ s, x = .str s := fun x hx => let ⟨s, e, _⟩ := f1 x hx; ⟨s, e⟩
  have ok : srtOk fs = true := by
    unfold srtOk
    have n1 : noRefs fs = true := noRefs_all fun y hy => by obtain ⟨t, rfl, _⟩ := f1 y hy; rfl
    have n2 : (fs.all fun x => fs.all fun y => alk x y) = true := List.all_eq_true.mpr fun x hx => List.all_eq_true.mpr fun y hy => by
      obtain ⟨s, rfl⟩ := hs x hx
      obtain ⟨t, rfl⟩ := hs y hy
      rfl
    have n3 : fs.all atomB = true := List.all_eq_true.mpr fun x hx => by
      obtain ⟨s, rfl⟩ := hs x hx
      rfl
    have n4 : depths fs ≤ 58 := Nat.le_trans (depths_all (d := 0) fun y hy => by obtain ⟨t, rfl⟩ := hs y hy; exact Nat.le_refl _) (by decide)
    rw [n1, n2, n3, decide_eq_true n4]
    simp
  have e3 : evL (cfg n) (.srt (.var 1)) [some (.ref (p + 3)), some (.ref (T.length + 3)), s2] M' = .ok (srtV fs) M' := by
    rw [sl_srt, s_var]
    simp only [List.getElem?_cons_succ, List.getElem?_cons_zero, Res.bind_ok, g, ok, if_true]
  have hm' := h2.len
  simp only [List.length_append, List.length_singleton] at hm'
  refine ⟨srtV fs, [.lst fs, .lst (srtV fs)], M' ++ [.lst (srtV fs)], ?_, ?_, rfl, ⟨by simp, fun x hx => f1 x (srt_mem.mp hx), by rw [srt_len]; exact fpos, by rw [srt_len]; simp at f3; omega, srt_asc ord_str hs f2⟩⟩
  · rw [seq_ret (ret_s (lst_s e3)), back_ret]
    rw [show M'.length = T.length + 1 + 3 by omega]
  · have := h2.push [.lst (srtV fs)]
    rwa [List.append_assoc] at this
end K3
end K3GCS

section K3GDS
set_option Elab.async false
set_option linter.all false
set_option maxRecDepth 100000
set_option maxHeartbeats 0
namespace K3
open Mi
open Classical
theorem b88_eq : b88 = .cons (.set 1 (.ixl (.disp (.cons (.op .add (.cst (.int 1)) (.call 14 (.cons (.var 0) (.cons (.cst (.int 4)) .nil)))) (.cons (.op .add (.cst (.int 25)) (.call 14 (.cons (.var 0) (.cons (.cst (.int 10)) .nil)))) .nil))) (.bi .int (.cmp .eq (.call 14 (.cons (.var 0) (.cons (.cst (.int 24)) .nil))) (.cst (.int 0)))))) (.cons (.ret (.call 72 (.cons (.lst (.comp [2] (.one 2) (.rng (.var 1)) .nil (.call 18 (.cons (.var 0) .nil)))) .nil))) .nil) := rfl
theorem pool_p (n : Nat) {o : Obj} {ns : List Int} {T M : Store} (h : S0 o ns T M) : ∃ ys X M', call pg (n + 6) 88 [.ref 2] M = .ok (.ref (T.length + 2 + 3)) M' ∧ S0 o ns (T ++ X) M' ∧ X.length = 3 ∧ Names (T ++ X) (T.length + 2) ys := by
  rw [call_s pg (n + 5) 88 _ _ ⟨1, 3, b88⟩ rfl rfl]
  show ∃ ys X M', back M (exs (cfg (n + 5)) b88 [some (.ref 2), none, none] M) = _ ∧ _
  obtain ⟨a, M1, a0, a1, e1, h1⟩ := draw (n + 2) 4 (by decide) (by decide) h
  obtain ⟨b, M2, b0, b1, e2, h2⟩ := draw (n + 2) 10 (by decide) (by decide) h1
  obtain ⟨c, M3, c0, c1, e3, h3⟩ := draw (n + 2) 24 (by decide) (by decide) h2
  have ek : ∃ k : Int, 1 ≤ k ∧ k ≤ 34 ∧ ev (cfg (n + 5)) (.ixl (.disp (.cons (.op .add (.cst (.int 1)) (.call 14 (.cons (.var 0) (.cons (.cst (.int 4)) .nil)))) (.cons (.op .add (.cst (.int 25)) (.call 14 (.cons (.var 0) (.cons (.cst (.int 10)) .nil)))) .nil))) (.bi .int (.cmp .eq (.call 14 (.cons (.var 0) (.cons (.cst (.int 24)) .nil))) (.cst (.int 0))))) [some (.ref 2), none, none] M = .ok (.int k) M3 := by
    have fin : ∀ (j k : Int), (c == 0) = (j == 1) → (j = 0 ∨ j = 1) → itemAt [Val.int (1 + a), .int (25 + b)] j = some (.int k) → ev (cfg (n + 5)) (.ixl (.disp (.cons (.op .add (.cst (.int 1)) (.call 14 (.cons (.var 0) (.cons (.cst (.int 4)) .nil)))) (.cons (.op .add (.cst (.int 25)) (.call 14 (.cons (.var 0) (.cons (.cst (.int 10)) .nil)))) .nil))) (.bi .int (.cmp .eq (.call 14 (.cons (.var 0) (.cons (.cst (.int 24)) .nil))) (.cst (.int 0))))) [some (.ref 2), none, none] M = .ok (.int k) M3 := fun j k hj hj2 hi => by
      rcases hj2 with rfl | rfl
      · have hc : (c == 0) = false := by rw [hj]; rfl
        simp [e1, e2, e3, op_add, lim2, hc, bi1, asInt, hi]
      · have hc : (c == 0) = true := by rw [hj]; rfl
        simp [e1, e2, e3, op_add, lim2, hc, bi1, asInt, hi]
    by_cases hc : c = 0
    · exact ⟨25 + b, by omega, by omega, fin 1 _ (by rw [hc]; rfl) (.inr rfl) rfl⟩
    · refine ⟨1 + a, by omega, by omega, fin 0 _ ?_ (.inl rfl) rfl⟩
      rw [beq_eq_false_iff_ne.mpr hc]; rfl
  obtain ⟨k, k0, k1, ek⟩ := ek
  obtain ⟨raw, M4, e4, h4, _, l4, p4⟩ := comp_gen (cf := cfg (n + 5)) (σ := [some (.ref 2), some (.int k), none]) (M := M3) (own := [2]) (i := 2) (a := .var 1) (e := .call 18 (.cons (.var 0) .nil)) (k := k) (I := S0 o ns T) (R := fun _ _ => True) (P := fun _ y => isName y) (fun _ => trivial) (fun _ _ _ _ _ => trivial) (fun _ _ _ _ p => p) (M0 := M3) (by rw [s_var]; rfl) (by omega) (by omega) (fun j M i => by
    obtain ⟨s, M', e, i', p⟩ := name_p (n + 1) i
    exact ⟨.str s, M', (call_1v (x := Val.ref 2) rfl).trans e, i', trivial, s, rfl, p⟩) h3
  have h5 := h4.push [.lst raw]
  obtain ⟨ys, X, M5, e5, h6, hX, hN⟩ := unlike_p (n + 4) (p := T.length) h5 (by simp) p4 (by omega) (by omega)
  have hm := h4.len
  refine ⟨ys, [.lst raw] ++ X, M5, ?_, by rw [← List.append_assoc]; exact h6, by simp [hX], ?_⟩
  · rw [b88_eq, seq_nx (σ1 := [some (.ref 2), some (.int k), none]) (M1 := M3) (by rw [set_s ek]; rfl)]
    have e6 : ev (cfg (n + 5)) (.call 72 (.cons (.lst (.comp [2] (.one 2) (.rng (.var 1)) .nil (.call 18 (.cons (.var 0) .nil)))) .nil)) [some (.ref 2), some (.int k), none] M3 = .ok (.ref (T.length + 2 + 3)) M5 := by
      rw [call_1 (lst_s e4), show M4.length = T.length + 3 by omega]
      have : T.length + 2 + 3 = (T ++ [Obj.lst raw]).length + 1 + 3 := by simp
      rw [this]
      exact e5
    rw [seq_ret (ret_s e6), back_ret]
  · have := hN
    rw [List.append_assoc] at this
    have e : (T ++ [Obj.lst raw]).length + 1 = T.length + 2 := by simp
    rw [e] at this
    exact this
/-! ### rows by their keys -/
def kyL : L := .comp [4] (.one 4) (.fresh (.srt (.var 2))) .nil (.ix (.var 2) (.var 4))
def kyB : Ss := .cons (.sixk (.var 2) (.var 3) .none (.some (.var 1)) (.var 3)) .nil
theorem b91_eq : b91 = .cons (.set 2 (.dic .nil)) (.cons (.loop (.one 3) (.seq (.var 0)) kyB) (.cons (.ret (.bil .tuple kyL)) .nil)) := rfl
/-- a row that has a key of these kinds, and more -/
def kRow (bs : List Bool) (v : Val) : Prop := ∃ xs, v = .tup xs ∧ pk bs (xs.take bs.length) ∧ bs.length < xs.length
/-- what the dict holds -/
structure Held (bs : List Bool) (rows : List Val) (kvs : List (List Val × Val)) : Prop where
  key : ∀ p ∈ kvs, pk bs p.1 ∧ p.2 ∈ rows ∧ keyV bs.length p.2 = p.1
  nd : (kvs.map (·.1)).Nodup
theorem Held.put {bs : List Bool} {rows : List Val} {kvs : List (List Val × Val)} (h : Held bs rows kvs) {k : List Val} {v : Val} (hk : pk bs k) (hv : v ∈ rows) (e : keyV bs.length v = k) : Held bs rows (ditPut kvs k v) ∧ (ditPut kvs k v).length ≤ kvs.length + 1 ∧ 0 < (ditPut kvs k v).length := by
  have hka : (kvs.any fun p => keysE p.1 k) = decide (k ∈ kvs.map (·.1)) := by
    by_cases hm : k ∈ kvs.map (·.1)
    · rw [decide_eq_true hm, List.any_eq_true]
      obtain ⟨p, hp, rfl⟩ := List.mem_map.mp hm
      exact ⟨p, hp, by rw [pk_keysE (h.key p hp).1 hk]; simp⟩
    · rw [decide_eq_false hm, List.any_eq_false]
      intro p hp
      rw [pk_keysE (h.key p hp).1 hk]
      simp only [decide_eq_true_eq]
      intro z
      exact hm (List.mem_map.mpr ⟨p, hp, z⟩)
  unfold ditPut
  rw [hka]
  by_cases hm : k ∈ kvs.map (·.1)
  · rw [if_pos (decide_eq_true hm)]
    have e1 : (kvs.map (fun p => if keysE p.1 k = true then (p.1, v) else p)).map (·.1) = kvs.map (·.1) := by
      rw [List.map_map]
      refine List.map_congr_left fun p hp => ?_
      simp only [Function.comp]
      split <;> rfl
    refine ⟨⟨fun p hp => ?_, by rw [e1]; exact h.nd⟩, by simp, ?_⟩
    · obtain ⟨q, hq, rfl⟩ := List.mem_map.mp hp
      by_cases c : keysE q.1 k = true
      · rw [if_pos c]
        have : q.1 = k := by
          rw [pk_keysE (h.key q hq).1 hk] at c
          exact of_decide_eq_true c
        exact ⟨(h.key q hq).1, hv, by rw [this]; exact e⟩
      · rw [if_neg c]
        exact h.key q hq
    · rw [List.length_map]
      obtain ⟨p, hp, _⟩ := List.mem_map.mp hm
      exact List.length_pos_of_mem hp
  · rw [if_neg (by rw [decide_eq_false hm]; exact Bool.false_ne_true)]
    refine ⟨⟨fun p hp => ?_, ?_⟩, by simp, by simp⟩
    · rcases List.mem_append.mp hp with hp | hp
      · exact h.key p hp
      · rw [List.mem_singleton.mp hp]
        exact ⟨hk, hv, e⟩
    · rw [List.map_append, List.nodup_append]
      refine ⟨h.nd, by simp, fun a ha b hb => ?_⟩
      have : b = k := by simpa using hb
      rw [this]
      intro z
      rw [z] at ha
      exact hm ha
theorem Held.get {bs : List Bool} {rows : List Val} {kvs : List (List Val × Val)} (h : Held bs rows kvs) {k : List Val} (hk : k ∈ kvs.map (·.1)) : ∃ v, ditGet kvs k = some v ∧ v ∈ rows ∧ keyV bs.length v = k := by
  obtain ⟨p, hp, rfl⟩ := List.mem_map.mp hk
  have hpk := (h.key p hp).1
  have hs : (kvs.find? fun q => keysE q.1 p.1).isSome = true := List.find?_isSome.mpr ⟨p, hp, by rw [pk_keysE hpk hpk]; simp⟩
  obtain ⟨q, hq⟩ := Option.isSome_iff_exists.mp hs
  have hm := List.mem_of_find?_eq_some hq
  have hc := List.find?_some hq
  rw [pk_keysE (h.key q hm).1 hpk] at hc
  have e := of_decide_eq_true hc
  refine ⟨q.2, by unfold ditGet; rw [hq]; rfl, (h.key q hm).2.1, ?_⟩
  rw [(h.key q hm).2.2, e]
theorem keyed_p (n : Nat) {o : Obj} {ns : List Int} {T M : Store} {p : Nat} {rows : List Val} {b : Bool} {bs : List Bool} (h : S0 o ns T M) (hp : T[p]? = some (.lst rows)) (hr : ∀ v ∈ rows, kRow (b :: bs) v) (hl : rows.length ≤ 2000) :
    ∃ out X M', call pg (n + 1) 91 [.ref (p + 3), .int ((b :: bs).length : Nat)] M = .ok (.tup out) M' ∧ S0 o ns (T ++ X) M' ∧ out.length ≤ rows.length ∧ (∀ v ∈ out, v ∈ rows) ∧ ascB (out.map (keyV (b :: bs).length)) = true := by
  rw [call_s pg n 91 _ _ ⟨2, 5, b91⟩ rfl rfl]
  generalize hbs : b :: bs = kb at hr
  show ∃ out X M', back M (exs (cfg n) b91 [some (.ref (p + 3)), some (.int (kb.length : Nat)), none, none, none] M) = _ ∧ _
  rw [b91_eq]
  have hpl : p < T.length := (List.getElem?_eq_some_iff.mp hp).1
  have hm := h.len
  rw [seq_nx (σ1 := [some (.ref (p + 3)), some (.int (kb.length : Nat)), some (.ref (T.length + 3)), none, none]) (M1 := M ++ [.dic []]) (by
    rw [set_s (v := .ref M.length) (M1 := M ++ [.dic []]) (by rw [s_dic, ss_nil, Res.bind_ok]; rfl)]
    rw [show M.length = T.length + 3 by omega]; rfl)]
  let P : List Val → St → Store → Prop := fun rest σ M2 => ∃ ob kvs s3, σ = [some (.ref (p + 3)), some (.int (kb.length : Nat)), some (.ref (T.length + 3)), s3, none] ∧ S0 o ns (T ++ [ob]) M2 ∧ (ob = .dit kvs ∨ ob = .dic [] ∧ kvs = []) ∧ Held kb rows kvs ∧ kvs.length + rest.length ≤ rows.length ∧ (∀ y ∈ rest, y ∈ rows)
  have hst : ∀ rest σ M2, P rest σ M2 → still M2 rows [(p + 3, rows)] := fun rest σ M2 ⟨ob, kvs, s3, _, h2, _⟩ => ⟨h2.gt (by rw [List.getElem?_append_left hpl]; exact hp), trivial⟩
  have hev : evS (cfg n) (.seq (.var 0)) [some (.ref (p + 3)), some (.int (kb.length : Nat)), some (.ref (T.length + 3)), none, none] (M ++ [.dic []]) = .ok (rows, [(p + 3, rows)]) (M ++ [.dic []]) := by
    have g : (M ++ [Obj.dic []])[p + 3]? = some (.lst rows) := (h.push [.dic []]).gt (by rw [List.getElem?_append_left hpl]; exact hp)
    rw [sS_seq, s_var]
    simp only [List.getElem?_cons_zero, Res.bind_ok, itemsOf, g, ofOpt_some]
  obtain ⟨σ', M', e1, ob, kvs, s3, rfl, h2, f1, f2, f3, _⟩ := rounds_onG (f := lpF (cfg n) (.one 3) kyB) (all := rows) (g := [(p + 3, rows)]) P hst (fun x rest σ M2 ⟨ob, kvs, s3, eσ, h2, f1, f2, f3, f4⟩ => by
    subst eσ
    have hx := f4 x List.mem_cons_self
    obtain ⟨xs, rfl, hk, hlt⟩ := hr x hx
    obtain ⟨q1, q2, q3⟩ := f2.put (k := xs.take kb.length) (v := .tup xs) hk hx rfl
    have g : M2[T.length + 3]? = some ob := h2.gt (by simp)
    have hkl : kvs.length < LIM := by rw [lim_val]; simp at f3; omega
    have hcut : (xs.take kb.length).length < xs.length := by rw [List.length_take]; omega
    have es : sixkV (.ref (T.length + 3)) (.tup xs) none (some ((kb.length : Nat) : Int)) (.tup xs) M2 = some (M2.set (T.length + 3) (.dit (ditPut kvs (xs.take kb.length) (.tup xs)))) := by
      simp only [sixkV, cut_take, pk_keyV hk, decide_eq_true hcut, Bool.and_self, if_true, g]
      rcases f1 with rfl | ⟨rfl, rfl⟩
      · simp only [decide_eq_true hkl, if_true]
      · rfl
    rw [lpF_one]
    show ∃ σ' M', exs (cfg n) kyB [some (.ref (p + 3)), some (.int (kb.length : Nat)), some (.ref (T.length + 3)), some (.tup xs), none] M2 = _ ∧ _
    refine ⟨[some (.ref (p + 3)), some (.int (kb.length : Nat)), some (.ref (T.length + 3)), some (.tup xs), none], M2.set (T.length + 3) (.dit (ditPut kvs (xs.take kb.length) (.tup xs))), ?_, .dit (ditPut kvs (xs.take kb.length) (.tup xs)), ditPut kvs (xs.take kb.length) (.tup xs), some (.tup xs), rfl, ?_, .inl rfl, q1, by simp at f3; omega, fun y hy => f4 y (List.mem_cons_of_mem _ hy)⟩
    · unfold kyB
      rw [xs_cons, x_sixk]
      simp only [s_var, List.getElem?_cons_zero, List.getElem?_cons_succ, Out.on_ok, so_none, so_some, Res.bind_ok]
      rw [es]
      simp only [Out.seq_nx, xs_nil]
    · have := h2.set T.length (.dit (ditPut kvs (xs.take kb.length) (.tup xs)))
      rwa [set_last] at this) rows [some (.ref (p + 3)), some (.int (kb.length : Nat)), some (.ref (T.length + 3)), none, none] (M ++ [.dic []]) ⟨.dic [], [], none, rfl, h.push [.dic []], .inr ⟨rfl, rfl⟩, ⟨fun p hp => (by cases hp), List.nodup_nil⟩, by simp, fun y hy => hy⟩
  rw [seq_nx (σ1 := [some (.ref (p + 3)), some (.int (kb.length : Nat)), some (.ref (T.length + 3)), s3, none]) (M1 := M') (by rw [x_loop0, hev, Out.on_ok]; exact e1)]
  have g : M'[T.length + 3]? = some ob := h2.gt (by simp)
  have hkm : ∀ k ∈ kvs.map (·.1), pk kb k := fun k hk => by
    obtain ⟨q, hq, rfl⟩ := List.mem_map.mp hk
    exact (f2.key q hq).1
  have em : (kvs.map fun q => Val.tup q.1) = (kvs.map (·.1)).map Val.tup := by rw [List.map_map]; rfl
  have ok : srtOk (kvs.map fun q => Val.tup q.1) = true := by
    rw [em, ← hbs] at *
    exact srtOk_kt (fun k hk => by rw [hbs] at *; exact hkm k hk)
  have e3 : evL (cfg n) (.srt (.var 2)) [some (.ref (p + 3)), some (.int (kb.length : Nat)), some (.ref (T.length + 3)), s3, none] M' = .ok (srtV (kvs.map fun q => Val.tup q.1)) M' := by
    rw [sl_srt, s_var]
    simp only [List.getElem?_cons_succ, List.getElem?_cons_zero, Res.bind_ok, g]
    rcases f1 with rfl | ⟨rfl, rfl⟩
    · simp only [ok, if_true]
    · simp [srtV]
  have asc := srt_asc (ord_kt kb) (xs := kvs.map fun q => Val.tup q.1) (fun x hx => by
    obtain ⟨q, hq, rfl⟩ := List.mem_map.mp hx
    exact ⟨q.1, rfl, (f2.key q hq).1⟩) (by
    rw [em]
    exact List.pairwise_map.mpr (f2.nd.imp fun {a b} hab z => hab (Val.tup.inj z)))
  have smem : ∀ x ∈ srtV (kvs.map fun q => Val.tup q.1), ∃ k v, x = .tup k ∧ pk kb k ∧ ditGet kvs k = some v ∧ v ∈ rows ∧ keyV kb.length v = k := fun x hx => by
    obtain ⟨q, hq, rfl⟩ := List.mem_map.mp (srt_mem.mp hx)
    obtain ⟨v, v1, v2, v3⟩ := f2.get (k := q.1) (List.mem_map.mpr ⟨q, hq, rfl⟩)
    exact ⟨q.1, v, rfl, (f2.key q hq).1, v1, v2, v3⟩
  let gv : Val → Val := fun x => match x with
    | .tup k => (ditGet kvs k).getD .non
    | _ => .non
  have slen : (srtV (kvs.map fun q => Val.tup q.1)).length = kvs.length := by rw [srt_len, List.length_map]
  have e4 : evL (cfg n) kyL [some (.ref (p + 3)), some (.int (kb.length : Nat)), some (.ref (T.length + 3)), s3, none] M' = .ok ((srtV (kvs.map fun q => Val.tup q.1)).map gv) M' := by
    unfold kyL
    have es : evS (cfg n) (.fresh (.srt (.var 2))) [some (.ref (p + 3)), some (.int (kb.length : Nat)), some (.ref (T.length + 3)), s3, none] M' = .ok (srtV (kvs.map fun q => Val.tup q.1), []) M' := by
      rw [show evS (cfg n) (.fresh (.srt (.var 2))) _ M' = (evL (cfg n) (.srt (.var 2)) _ M').bind fun xs M1 => .ok (xs, []) M1 from by rw [evS], e3, Res.bind_ok]
    rw [evL_comp, es]
    simp only [Res.bind_ok]
    rw [turns_pure (M := M') (g := []) True.intro gv fun x hx => ?_]
    · simp only [Res.bind_ok, lcEnd, List.nil_append]
      rw [if_pos (by rw [lim_val, List.length_map, slen]; simp at f3; omega)]
    · obtain ⟨k, v, rfl, k1, k2, _, _⟩ := smem x hx
      have hne : ob = .dit kvs := by
        rcases f1 with f1 | ⟨_, rfl⟩
        · exact f1
        · have := srt_mem.mp hx
          simp at this
      unfold lcTurn
      simp only [put, st_nil0, Res.bind_ok, if_true]
      have ei : ixV (.ref (T.length + 3)) (.tup k) M' = some v := by
        simp only [ixV, g, hne, pk_keyV k1, if_true, k2]
      rw [ix_s (x := .ref (T.length + 3)) (y := .tup k) (M1 := M') (M2 := M') (v := v) (by rw [s_var]; rfl) (by rw [s_var]; rfl) ei]
      simp only [Res.bind_ok, gv, k2, Option.getD_some]
  have hgv : ∀ x ∈ srtV (kvs.map fun q => Val.tup q.1), gv x ∈ rows ∧ x = .tup (keyV kb.length (gv x)) := fun x hx => by
    obtain ⟨k, v, rfl, k1, k2, k3, k4⟩ := smem x hx
    have : gv (.tup k) = v := by simp only [gv, k2, Option.getD_some]
    rw [this, k4]
    exact ⟨k3, rfl⟩
  refine ⟨(srtV (kvs.map fun q => Val.tup q.1)).map gv, [ob], M', ?_, h2, by rw [List.length_map, slen]; simp at f3; omega, fun v hv => ?_, ?_⟩
  · rw [seq_ret (ret_s (v := .tup ((srtV (kvs.map fun q => Val.tup q.1)).map gv)) (M1 := M') (by rw [s_bil, e4]; rfl)), back_ret]
  · obtain ⟨x, hx, rfl⟩ := List.mem_map.mp hv
    exact (hgv x hx).1
  · rw [List.map_map]
    refine asc_of (List.pairwise_map.mpr (List.Pairwise.imp_of_mem (fun {a b} ha hb hab => ?_) asc))
    have e1 := (hgv a ha).2
    have e2 := (hgv b hb).2
    rw [e1, e2] at hab
    exact hab
end K3
end K3GDS

section K3GES
set_option Elab.async false
set_option linter.all false
set_option maxRecDepth 100000
set_option maxHeartbeats 0
namespace Mi
theorem st_one {cf : Cf} {σ : St} {M M1 : Store} {e : E} {k : Bool} (h : ev cf e σ M = .ok (.bl k) M1) : evt cf (.cons e .nil) σ M = .ok k M1 := by
  rw [evt, h, Res.bind_ok, show truth M1 (.bl k) = some k from rfl, ofOpt_some, Res.bind_ok]
  cases k
  · rfl
  · rw [if_pos rfl, evt]
end Mi
namespace K3
open Mi
open Classical
/-! ### a table drawn -/
def fileOf (x y : Val) : Prop := ∃ st con, y = .tup [x, st, con] ∧ (stampB st = true ∧ fit 2 0 [] st) ∧ (conB con = true ∧ fit 1 0 [] con)
def flE : E := .tup (.cons (.var 8) (.cons (.call 25 (.cons (.var 0) .nil)) (.cons (.call 73 (.cons (.var 0) .nil)) .nil)))
def flC : E := .cmp .gt (.call 14 (.cons (.var 0) (.cons (.cst (.int 4)) .nil))) (.cst (.int 0))
theorem files_p (n : Nat) {o : Obj} {ns : List Int} {T M : Store} {p : Nat} {xs : List Val} {σ : St} (h : S0 o ns T M) (hn : Names T p xs) (v0 : σ[0]? = some (some (.ref 2))) (v1 : σ[1]? = some (some (.ref (p + 3)))) (hl : σ.length = 9) :
    ∃ ys M', evL (cfg (n + 6)) (.comp [8] (.one 8) (.seq (.var 1)) (.cons flC .nil) flE) σ M = .ok ys M' ∧ S0 o ns T M' ∧ Sel fileOf xs ys := by
  have g : M[p + 3]? = some (.lst xs) := h.gt hn.at_
  have hs : evS (cfg (n + 6)) (.seq (.var 1)) σ M = .ok (xs, [(p + 3, xs)]) M := by
    rw [sS_seq, s_var, v1]
    simp only [Res.bind_ok, itemsOf, g, ofOpt_some]
  obtain ⟨ys, M', e1, h1, s1⟩ := turns_sel (f := lcTurn (cfg (n + 6)) (.one 8) (.cons flC .nil) flE (wiped σ [8])) (all := xs) (g := [(p + 3, xs)]) (I := S0 o ns T) (Q := fileOf) (fun M i => ⟨i.gt hn.at_, trivial⟩) (xs := xs) (fun x _ M i => by
    obtain ⟨q, M1, q0, q1, e1, h1⟩ := draw (n + 3) 4 (by decide) (by decide) i
    have w0 : ((wiped σ [8]).set 8 (some x))[0]? = some (some (.ref 2)) := by
      simp only [wiped]
      rw [List.getElem?_set_ne (by decide), List.getElem?_set_ne (by decide), v0]
    have w8 : ((wiped σ [8]).set 8 (some x))[8]? = some (some x) := by
      simp only [wiped]
      rw [List.getElem?_set_self (by rw [List.length_set, hl]; decide)]
    have c1 : ev (cfg (n + 6)) flC ((wiped σ [8]).set 8 (some x)) M = .ok (.bl (decide (0 < q))) M1 := by
      unfold flC
      refine cmp_s (x := .int q) (y := .int 0) (M1 := M1) (M2 := M1) ?_ (s_cst _) rfl
      rw [call_2 (x := .ref 2) (y := .int 4) (M1 := M) (M2 := M) (by rw [s_var, w0]) (s_cst _)]
      exact e1
    by_cases hq : 0 < q
    · rw [decide_eq_true hq] at c1
      obtain ⟨st, M2, e2, h2, p2⟩ := stamp_p (n + 1) h1
      obtain ⟨con, M3, e3, h3, p3⟩ := content_p n h2
      refine ⟨M3, h3, .inr ⟨.tup [x, st, con], ?_, st, con, rfl, p2, p3⟩⟩
      unfold lcTurn
      simp only [put, st_one c1, Res.bind_ok, if_true]
      have e4 : ev (cfg (n + 6)) flE ((wiped σ [8]).set 8 (some x)) M1 = .ok (.tup [x, st, con]) M3 := by
        unfold flE
        refine tup_s (disp_c (by rw [s_var, w8]) (disp_c (M1 := M2) ?_ (disp_1 ?_))) (by simp)
        · rw [call_1v w0]; exact e2
        · rw [call_1v w0]; exact e3
      rw [e4]
      rfl
    · rw [decide_eq_false hq] at c1
      refine ⟨M1, h1, .inl ?_⟩
      unfold lcTurn
      simp only [put, st_one c1, Res.bind_ok]
      rfl) h
  refine ⟨ys, M', ?_, h1, s1⟩
  rw [evL_comp, hs]
  simp only [Res.bind_ok, e1, lcEnd, List.nil_append]
  have := s1.len
  have := hn.len
  rw [if_pos (by rw [lim_val]; omega)]
theorem sel_asc {xs ys : List Val} (h : Sel fileOf xs ys) (hs : ∀ x ∈ xs, ∃ s, x = .str s ∧ nameB0 (.str s) = true) (hp : xs.Pairwise (fun x y => ltV x y = true)) : (ys.map (keyV 1)).Pairwise (fun a b => ltVs a b = true) := by
  induction h with
  | nil => exact .nil
  | skip _ ih => exact ih (fun x hx => hs x (List.mem_cons_of_mem _ hx)) (List.pairwise_cons.mp hp).2
  | @take x y xs ys q h ih =>
    obtain ⟨h1, h2⟩ := List.pairwise_cons.mp hp
    rw [List.map_cons]
    refine List.pairwise_cons.mpr ⟨fun k hk => ?_, ih (fun x hx => hs x (List.mem_cons_of_mem _ hx)) h2⟩
    obtain ⟨z, hz, rfl⟩ := List.mem_map.mp hk
    obtain ⟨w, hw, st, con, rfl, _⟩ := h.mem z hz
    obtain ⟨st2, con2, rfl, _⟩ := q
    obtain ⟨s, rfl, _⟩ := hs x List.mem_cons_self
    obtain ⟨t, rfl, _⟩ := hs w (List.mem_cons_of_mem _ hw)
    have hlt := h1 _ hw
    show ltVs [.str s] [.str t] = true
    rw [ltVs_cons (b := true) (x := .str s) (y := .str t) (show atk true (.str s) from rfl) (show atk true (.str t) from rfl)]
    by_cases e : Val.str s = .str t
    · rw [e] at hlt
      rw [ord_str.irr _ ⟨t, rfl⟩] at hlt
      cases hlt
    · rw [if_neg e]
      exact hlt
def dnRow : E := .tup (.cons (.call 24 (.cons (.var 0) .nil)) (.cons (.op .add (.cst (.int 1)) (.call 15 (.cons (.var 0) .nil))) (.cons (.call 90 (.cons (.var 0) .nil)) (.cons (.call 25 (.cons (.var 0) .nil)) .nil))))
def dnB : Ss := .cons (.expr (.mtd .append (.var 5) (.cons dnRow .nil))) .nil
def goodRow (f : Val → Bool) (v : Val) : Prop := f v = true ∧ fit 3 1 [] v ∧ cnt 3 [] v ≤ 50
theorem done_row (n : Nat) {o : Obj} {ns : List Int} {T M : Store} {σ : St} (h : S0 o ns T M) (v0 : σ[0]? = some (some (.ref 2))) : ∃ v M', ev (cfg (n + 5)) dnRow σ M = .ok v M' ∧ S0 o ns T M' ∧ goodRow (formB fDone) v ∧ ∃ ys, v = .tup ys ∧ ys.length = 4 := by
  obtain ⟨b, M1, b0, b1, e1, h1⟩ := client_p (n + 1) h
  obtain ⟨q, M2, q0, q1, e2, h2⟩ := number (n + 1) h1
  obtain ⟨w, M3, e3, h3, ww, wf⟩ := word_p (n + 1) h2
  obtain ⟨s, M4, e4, h4, ss, sf⟩ := stamp_p n h3
  refine ⟨.tup [.int b, .int (1 + q), w, s], M4, ?_, h4, ⟨?_, tup_fit (by simp) fun x hx => ?_, ?_⟩, _, rfl, rfl⟩
  · unfold dnRow
    refine tup_s (disp_c (M1 := M1) (by rw [call_1v v0]; exact e1) (disp_c (M1 := M2) (op_s (x := .int 1) (y := .int q) (M1 := M1) (M2 := M2) (s_cst _) (by rw [call_1v v0]; exact e2) rfl) (disp_c (M1 := M3) (by rw [call_1v v0]; exact e3) (disp_1 (by rw [call_1v v0]; exact e4))))) (by simp)
  · have p1 : cliB (.int b) = true := by simp [cliB, b0, b1]
    have p2 : fromB (.int (1 + q)) 1 = true := by simp [fromB]; omega
    show (cliB (.int b) && (fromB (.int (1 + q)) 1 && (wordIn wWords w && (stampB s && true)))) = true
    rw [p1, p2, ww, ss]
    rfl
  · have : x = .int b ∨ x = .int (1 + q) ∨ x = w ∨ x = s := by simpa using hx
    rcases this with rfl | rfl | rfl | rfl
    · exact int_fit (by omega) (by omega)
    · exact int_fit (by omega) (by omega)
    · exact fit_le (by omega) (by omega) wf
    · exact fit_le (by omega) (by omega) sf
  · have c1 := leaf_cnt wf
    have c2 := two_cnt sf
    have c4 : ∀ i : Int, cnt 2 [] (.int i) = 1 := fun _ => rfl
    rw [cnt_tup]
    simp only [List.map_cons, List.map_nil, List.sum_cons, List.sum_nil, c4]
    omega
/-- a part of a table: rows -/
structure Part (f : Val → Bool) (m : Nat) (v : Val) (c : Nat) : Prop where
  ok : rowsB f m v = true
  fit : fit 4 30 [] v
  cnt : cnt 4 [] v ≤ c
theorem part_of {f : Val → Bool} {m l : Nat} {rows : List Val} (h : ∀ v ∈ rows, goodRow f v) (hl : rows.length ≤ l) (hl2 : l ≤ 34) (ha : ascB (rows.map (keyV m)) = true) : Part f m (.tup rows) (1 + l * 50) := by
  refine ⟨?_, tup_fit (by omega) fun v hv => fit_le (by omega) (by omega) (h v hv).2.1, ?_⟩
  · simp only [rowsB, ha, Bool.and_true]
    exact List.all_eq_true.mpr fun v hv => (h v hv).1
  · rw [cnt_tup]
    have := sum_le (f := K3.cnt 3 []) (b := 50) fun v hv => (h v hv).2.2
    have h3 : rows.length * 50 ≤ l * 50 := Nat.mul_le_mul_right _ hl
    omega
def tbRet : E := .tup (.cons (.var 2) (.cons (.bi .tuple (.var 3)) (.cons (.call 91 (.cons (.var 4) (.cons (.cst (.int 2)) .nil))) (.cons (.call 91 (.cons (.var 5) (.cons (.cst (.int 1)) .nil))) (.cons (.call 91 (.cons (.var 7) (.cons (.cst (.int 2)) .nil))) .nil)))))
theorem b94_eq : b94 = .cons (.set 2 (.call 15 (.cons (.var 0) .nil))) (.cons (.set 3 (.lst (.comp [8] (.one 8) (.seq (.var 1)) (.cons flC .nil) flE))) (.cons (.set 4 (.lst (.comp [6] (.one 6) (.rng (.call 14 (.cons (.var 0) (.cons (.cst (.int 5)) .nil)))) .nil (.call 92 (.cons (.var 0) (.cons (.var 1) (.cons (.var 2) .nil))))))) (.cons (.set 5 (.lst (.disp .nil))) (.cons (.loop (.one 6) (.rng (.call 14 (.cons (.var 0) (.cons (.cst (.int 4)) .nil)))) dnB) (.cons (.set 7 (.lst (.comp [6] (.one 6) (.rng (.call 14 (.cons (.var 0) (.cons (.cst (.int 4)) .nil)))) .nil (.call 93 (.cons (.var 0) (.cons (.var 1) .nil)))))) (.cons (.ret tbRet) .nil)))))) := rfl
theorem kRow_of {f : Val → Bool} {bs : List Bool} {v : Val} (hk : keyed f bs) (h : f v = true) (hl : ∃ ys, v = .tup ys ∧ bs.length < ys.length) : kRow bs v := by
  obtain ⟨xs, rfl, hp⟩ := hk v h
  obtain ⟨ys, e, hl⟩ := hl
  cases e
  refine ⟨xs, rfl, ⟨by rw [List.length_take]; omega, ?_⟩, hl⟩
  clear h hk hl
  induction bs generalizing xs with
  | nil => trivial
  | cons b bs ih =>
    cases xs with
    | nil => exact hp.elim
    | cons x xs => exact ⟨hp.1, ih _ hp.2⟩
theorem call_91 {cf : Cf} {σ : St} {M : Store} {i : Nat} {x : Val} {m : Int} (h : σ[i]? = some (some x)) : ev cf (.call 91 (.cons (.var i) (.cons (.cst (.int m)) .nil))) σ M = cf.call 91 [x, .int m] M :=
  call_2 (x := x) (y := .int m) (M1 := M) (M2 := M) (by rw [s_var, h]) (s_cst _)
def goodTable (v : Val) : Prop := tableB v = true ∧ fit 5 30 [] v ∧ cnt 5 [] v ≤ 2400
theorem table_p (n : Nat) {o : Obj} {ns : List Int} {T M : Store} {p : Nat} {xs : List Val} (h : S0 o ns T M) (hn : Names T p xs) :
    ∃ v X M', call pg (n + 8) 94 [.ref 2, .ref (p + 3)] M = .ok v M' ∧ S0 o ns (T ++ X) M' ∧ goodTable v := by
  rw [call_s pg (n + 7) 94 _ _ ⟨2, 9, b94⟩ rfl rfl]
  show ∃ v X M', back M (exs (cfg (n + 7)) b94 [some (.ref 2), some (.ref (p + 3)), none, none, none, none, none, none, none] M) = _ ∧ _
  rw [b94_eq]
  obtain ⟨c, M1, c0, c1, e1, h1⟩ := number (n + 3) h
  rw [seq_nx (σ1 := [some (.ref 2), some (.ref (p + 3)), some (.int c), none, none, none, none, none, none]) (M1 := M1) (by rw [set_s (by rw [call_1v (x := .ref 2) rfl]; exact e1)]; rfl)]
  obtain ⟨fs, M2, e2, h2, s2⟩ := files_p (n + 1) (σ := [some (.ref 2), some (.ref (p + 3)), some (.int c), none, none, none, none, none, none]) h1 hn rfl rfl rfl
  have l2 := h2.len
  rw [seq_nx (σ1 := [some (.ref 2), some (.ref (p + 3)), some (.int c), some (.ref (T.length + 3)), none, none, none, none, none]) (M1 := M2 ++ [.lst fs]) (by rw [set_s (lst_s e2), show M2.length = T.length + 3 by omega]; rfl)]
  have h2' := h2.push [.lst fs]
  obtain ⟨q, M3, q0, q1, e3, h3⟩ := draw (n + 4) 5 (by decide) (by decide) h2'
  obtain ⟨ls, M4, e4, h4, _, l4, p4⟩ := comp_gen (cf := cfg (n + 7)) (σ := [some (.ref 2), some (.ref (p + 3)), some (.int c), some (.ref (T.length + 3)), none, none, none, none, none]) (M := M2 ++ [.lst fs]) (own := [6]) (i := 6) (a := .call 14 (.cons (.var 0) (.cons (.cst (.int 5)) .nil))) (e := .call 92 (.cons (.var 0) (.cons (.var 1) (.cons (.var 2) .nil)))) (k := q) (I := S0 o ns (T ++ [.lst fs])) (R := fun _ _ => True) (P := fun _ v => goodRow (formB fLease) v ∧ ∃ ys, v = .tup ys ∧ ys.length = 5) (fun _ => trivial) (fun _ _ _ _ _ => trivial) (fun _ _ _ _ p => p) (M0 := M3) (by rw [call_2 (x := .ref 2) (y := .int 5) (M1 := M2 ++ [.lst fs]) (M2 := M2 ++ [.lst fs]) (by rw [s_var]; rfl) (s_cst _)]; exact e3) q0 (by omega) (fun j M i => by
    obtain ⟨v, M', e, i', f1, f2, f3, f4⟩ := lease_p (n + 1) i hn.more c c0 (by omega)
    refine ⟨v, M', ?_, i', trivial, ⟨f1, f2, f3⟩, f4⟩
    rw [s_call, ss_cons, s_var]
    show ((Res.ok (Val.ref 2) M).bind _).bind _ = _
    rw [Res.bind_ok, ss_cons, s_var]
    show (((Res.ok (Val.ref (p + 3)) M).bind _).bind _).bind _ = _
    rw [Res.bind_ok, ss_cons, s_var]
    show ((((Res.ok (Val.int c) M).bind _).bind _).bind _).bind _ = _
    simp only [Res.bind_ok, ss_nil]
    exact e) h3
  have l4' := h4.len
  rw [seq_nx (σ1 := [some (.ref 2), some (.ref (p + 3)), some (.int c), some (.ref (T.length + 3)), some (.ref (T.length + 4)), none, none, none, none]) (M1 := M4 ++ [.lst ls]) (by rw [set_s (lst_s e4), show M4.length = T.length + 4 by simp at l4'; omega]; rfl)]
  have h4' := h4.push [.lst ls]
  rw [List.append_assoc] at h4'
  have l5' := h4'.len
  rw [seq_nx (σ1 := [some (.ref 2), some (.ref (p + 3)), some (.int c), some (.ref (T.length + 3)), some (.ref (T.length + 4)), some (.ref (T.length + 5)), none, none, none]) (M1 := M4 ++ [.lst ls] ++ [.lst []]) (by
    rw [set_s (lst_s (xs := []) (M1 := M4 ++ [.lst ls]) (by rw [sl_disp, ss_nil, Res.bind_ok, if_pos (by simp)])), show (M4 ++ [Obj.lst ls]).length = T.length + 5 by simp at l5' ⊢; omega]; rfl)]
  have h5 : S0 o ns (T ++ [.lst fs, .lst ls] ++ [.lst []]) (M4 ++ [.lst ls] ++ [.lst []]) := h4'.push [.lst []]
  obtain ⟨r, M6, r0, r1, e6, h6⟩ := draw (n + 4) 4 (by decide) (by decide) h5
  obtain ⟨t, ht⟩ : ∃ t : Nat, (t : Int) = r := ⟨r.toNat, by omega⟩
  have ea : ev (cfg (n + 7)) (.call 14 (.cons (.var 0) (.cons (.cst (.int 4)) .nil))) [some (.ref 2), some (.ref (p + 3)), some (.int c), some (.ref (T.length + 3)), some (.ref (T.length + 4)), some (.ref (T.length + 5)), none, none, none] (M4 ++ [.lst ls] ++ [.lst []]) = .ok (.int (t : Nat)) M6 := by
    rw [call_2 (x := .ref 2) (y := .int 4) (M1 := M4 ++ [.lst ls] ++ [.lst []]) (M2 := M4 ++ [.lst ls] ++ [.lst []]) (by rw [s_var]; rfl) (s_cst _), ht]
    exact e6
  obtain ⟨σ7, M7, e7, s6, ds, rfl, h7, d1, d2⟩ := x_rng (cf := cfg (n + 7)) (i := 6) (b := dnB) ea (by omega) (fun j σ M => ∃ s6 ds, σ = [some (.ref 2), some (.ref (p + 3)), some (.int c), some (.ref (T.length + 3)), some (.ref (T.length + 4)), some (.ref (T.length + 5)), s6, none, none] ∧ S0 o ns (T ++ [.lst fs, .lst ls] ++ [.lst ds]) M ∧ (∀ v ∈ ds, goodRow (formB fDone) v ∧ ∃ ys, v = .tup ys ∧ ys.length = 4) ∧ ds.length = j) ⟨none, [], rfl, h6, fun v hv => (by cases hv), rfl⟩ (fun j σ M hj ⟨s6, ds, eσ, hM, d1, d2⟩ => by
    subst eσ
    obtain ⟨v, M', ev1, hM', g1, g2⟩ := done_row (n + 2) (σ := [some (.ref 2), some (.ref (p + 3)), some (.int c), some (.ref (T.length + 3)), some (.ref (T.length + 4)), some (.ref (T.length + 5)), some (.int (j : Nat)), none, none]) hM rfl
    have tl5 : (T ++ [Obj.lst fs, .lst ls]).length = T.length + 2 := by simp
    have g0 : M[T.length + 5]? = some (.lst ds) := hM.gt (j := T.length + 2) (by rw [← tl5]; simp)
    have gg : M'[T.length + 5]? = some (.lst ds) := hM'.gt (j := T.length + 2) (by rw [← tl5]; simp)
    have hlm : ds.length < LIM := by rw [lim_val]; omega
    have e2 : ev (cfg (n + 7)) (.mtd .append (.var 5) (.cons dnRow .nil)) [some (.ref 2), some (.ref (p + 3)), some (.int c), some (.ref (T.length + 3)), some (.ref (T.length + 4)), some (.ref (T.length + 5)), some (.int (j : Nat)), none, none] M = .ok .non (M'.set (T.length + 5) (.lst (ds ++ [v]))) := by
      have il : isLst M (.ref (T.length + 5)) = true := by simp [isLst, g0]
      rw [s_mtd, s_var]
      show (Res.ok (Val.ref (T.length + 5)) M).bind _ = _
      rw [Res.bind_ok, il, if_pos rfl, disp_1 ev1, Res.bind_ok]
      simp only [mtd1, gg, hlm, if_true]
    refine ⟨[some (.ref 2), some (.ref (p + 3)), some (.int c), some (.ref (T.length + 3)), some (.ref (T.length + 4)), some (.ref (T.length + 5)), some (.int (j : Nat)), none, none], M'.set (T.length + 5) (.lst (ds ++ [v])), ?_, some (.int (j : Nat)), ds ++ [v], rfl, ?_, fun w hw => ?_, by simp [d2]⟩
    · unfold dnB
      show exs (cfg (n + 7)) _ [some (.ref 2), some (.ref (p + 3)), some (.int c), some (.ref (T.length + 3)), some (.ref (T.length + 4)), some (.ref (T.length + 5)), some (.int (j : Nat)), none, none] M = _
      rw [seq_nx (expr_s e2), xs_nil]
    · have := hM'.set (T.length + 2) (.lst (ds ++ [v]))
      rw [← tl5, set_last] at this
      rw [tl5] at this
      exact this
    · rcases List.mem_append.mp hw with hw | hw
      · exact d1 w hw
      · rw [List.mem_singleton.mp hw]; exact ⟨g1, g2⟩)
  rw [seq_nx e7]
  obtain ⟨u, M8, u0, u1, e8, h8⟩ := draw (n + 4) 4 (by decide) (by decide) h7
  have hn8 : Names (T ++ [.lst fs, .lst ls] ++ [.lst ds]) p xs := hn.more.more
  obtain ⟨as, M9, e9, h9, _, l9, p9⟩ := comp_gen (cf := cfg (n + 7)) (σ := [some (.ref 2), some (.ref (p + 3)), some (.int c), some (.ref (T.length + 3)), some (.ref (T.length + 4)), some (.ref (T.length + 5)), s6, none, none]) (M := M7) (own := [6]) (i := 6) (a := .call 14 (.cons (.var 0) (.cons (.cst (.int 4)) .nil))) (e := .call 93 (.cons (.var 0) (.cons (.var 1) .nil))) (k := u) (I := S0 o ns (T ++ [.lst fs, .lst ls] ++ [.lst ds])) (R := fun _ _ => True) (P := fun _ v => goodRow (formB fAside) v ∧ ∃ ys, v = .tup ys ∧ ys.length = 5) (fun _ => trivial) (fun _ _ _ _ _ => trivial) (fun _ _ _ _ p => p) (M0 := M8) (by rw [call_2 (x := .ref 2) (y := .int 4) (M1 := M7) (M2 := M7) (by rw [s_var]; rfl) (s_cst _)]; exact e8) u0 (by omega) (fun j M i => by
    obtain ⟨v, M', e, i', f1, f2, f3, f4⟩ := aside_p n i hn8
    refine ⟨v, M', ?_, i', trivial, ⟨f1, f2, f3⟩, f4⟩
    rw [call_2 (x := .ref 2) (y := .ref (p + 3)) (M1 := M) (M2 := M) (by rw [s_var]; rfl) (by rw [s_var]; rfl)]
    exact e) h8
  have l9' := h9.len
  rw [seq_nx (σ1 := [some (.ref 2), some (.ref (p + 3)), some (.int c), some (.ref (T.length + 3)), some (.ref (T.length + 4)), some (.ref (T.length + 5)), s6, some (.ref (T.length + 6)), none]) (M1 := M9 ++ [.lst as]) (by rw [set_s (lst_s e9), show M9.length = T.length + 6 by simp at l9'; omega]; rfl)]
  have h10 : S0 o ns (T ++ [.lst fs, .lst ls, .lst ds, .lst as]) (M9 ++ [.lst as]) := by
    have := h9.push [.lst as]
    simpa [List.append_assoc] using this
  generalize hM10 : M9 ++ [Obj.lst as] = M10 at h10 ⊢
  have q3 : M10[T.length + 3]? = some (.lst fs) := h10.gt (j := T.length) (by simp)
  have a4 : (T ++ [Obj.lst fs, .lst ls, .lst ds, .lst as])[T.length + 1]? = some (.lst ls) := by simp
  have a5 : (T ++ [Obj.lst fs, .lst ls, .lst ds, .lst as])[T.length + 2]? = some (.lst ds) := by simp
  have a7 : (T ++ [Obj.lst fs, .lst ls, .lst ds, .lst as])[T.length + 3]? = some (.lst as) := by simp
  obtain ⟨o4, X4, M11, k4, h11, ol4, om4, oa4⟩ := keyed_p (n + 6) (b := true) (bs := [false]) h10 a4 (fun v hv => kRow_of keyed_lease (p4 v hv).1.1 (by obtain ⟨ys, e, l⟩ := (p4 v hv).2; exact ⟨ys, e, by simp [l]⟩)) (by omega)
  obtain ⟨o5, X5, M12, k5, h12, ol5, om5, oa5⟩ := keyed_p (n + 6) (p := T.length + 2) (b := false) (bs := []) h11 (by rw [List.getElem?_append_left (by simp)]; exact a5) (fun v hv => kRow_of keyed_done (d1 v hv).1.1 (by obtain ⟨ys, e, l⟩ := (d1 v hv).2; exact ⟨ys, e, by simp [l]⟩)) (by omega)
  obtain ⟨o7, X7, M13, k7, h13, ol7, om7, oa7⟩ := keyed_p (n + 6) (p := T.length + 3) (b := false) (bs := [false]) h12 (by rw [List.getElem?_append_left (by simp), List.getElem?_append_left (by simp)]; exact a7) (fun v hv => kRow_of keyed_aside (p9 v hv).1.1 (by obtain ⟨ys, e, l⟩ := (p9 v hv).2; exact ⟨ys, e, by simp [l]⟩)) (by omega)
  have pf : Part (formB fFile) 1 (.tup fs) (1 + 34 * 50) := by
    have hln := hn.len
    refine part_of (l := 34) (fun v hv => ?_) (by have := s2.len; omega) (by omega) (asc_of (sel_asc s2 hn.nm hn.asc))
    obtain ⟨x, hx, st, con, rfl, ⟨st1, st2⟩, con1, con2⟩ := s2.mem v hv
    obtain ⟨s, rfl, hs⟩ := hn.nm x hx
    refine ⟨?_, tup_fit (by simp) fun y hy => ?_, ?_⟩
    · show (nameB0 (.str s) && (stampB st && (conB con && true))) = true
      rw [hs, st1, con1]
      rfl
    · have : y = .str s ∨ y = st ∨ y = con := by simpa using hy
      rcases this with rfl | rfl | rfl
      · exact name_fit hs
      · exact fit_le (by omega) (by omega) st2
      · exact fit_le (by omega) (by omega) con2
    · have k1 := leaf_cnt con2
      have k2 := two_cnt st2
      have k3 : cnt 2 [] (.str s) = 1 := rfl
      rw [cnt_tup]
      simp only [List.map_cons, List.map_nil, List.sum_cons, List.sum_nil, k3]
      omega
  have pl : Part (formB fLease) 2 (.tup o4) (1 + 4 * 50) := part_of (fun v hv => (p4 v (om4 v hv)).1) (by omega) (by omega) oa4
  have pd : Part (formB fDone) 1 (.tup o5) (1 + 4 * 50) := part_of (fun v hv => (d1 v (om5 v hv)).1) (by omega) (by omega) oa5
  have pa : Part (formB fAside) 2 (.tup o7) (1 + 4 * 50) := part_of (fun v hv => (p9 v (om7 v hv)).1) (by omega) (by omega) oa7
  refine ⟨.tup [.int c, .tup fs, .tup o4, .tup o5, .tup o7], [.lst fs, .lst ls, .lst ds, .lst as] ++ X4 ++ X5 ++ X7, M13, ?_, by simpa [List.append_assoc] using h13, ?_, tup_fit (by simp) fun x hx => ?_, ?_⟩
  · have er : ev (cfg (n + 7)) tbRet [some (.ref 2), some (.ref (p + 3)), some (.int c), some (.ref (T.length + 3)), some (.ref (T.length + 4)), some (.ref (T.length + 5)), s6, some (.ref (T.length + 6)), none] M10 = .ok (.tup [.int c, .tup fs, .tup o4, .tup o5, .tup o7]) M13 := by
      unfold tbRet
      refine tup_s (disp_c (x := .int c) (M1 := M10) (by rw [s_var]; rfl) (disp_c (x := .tup fs) (M1 := M10) ?_ (disp_c (M1 := M11) ?_ (disp_c (M1 := M12) ?_ (disp_1 ?_))))) (by simp)
      · rw [s_bi, s_var]
        show (Res.ok (Val.ref (T.length + 3)) M10).bind _ = _
        simp only [Res.bind_ok, bi1, q3]
      · rw [call_91 (x := .ref (T.length + 1 + 3)) rfl]; exact k4
      · rw [call_91 (x := .ref (T.length + 2 + 3)) rfl]; exact k5
      · rw [call_91 (x := .ref (T.length + 3 + 3)) rfl]; exact k7
    rw [seq_ret (ret_s er), back_ret]
  · have c0' : fromB (.int c) 0 = true := by simp [fromB, c0]
    show ((fromB (.int c) 0 && (rowsB (formB fFile) 1 (.tup fs) && rowsB (formB fLease) 2 (.tup o4))) && (rowsB (formB fDone) 1 (.tup o5) && rowsB (formB fAside) 2 (.tup o7))) = true
    rw [c0', pf.ok, pl.ok, pd.ok, pa.ok]
    rfl
  · have : x = .int c ∨ x = .tup fs ∨ x = .tup o4 ∨ x = .tup o5 ∨ x = .tup o7 := by simpa using hx
    rcases this with rfl | rfl | rfl | rfl | rfl
    · exact int_fit c0 (by omega)
    · exact pf.fit
    · exact pl.fit
    · exact pd.fit
    · exact pa.fit
  · have k1 := pf.cnt
    have k2 := pl.cnt
    have k3 := pd.cnt
    have k4 := pa.cnt
    have k5 : cnt 4 [] (.int c) = 1 := rfl
    rw [cnt_tup]
    simp only [List.map_cons, List.map_nil, List.sum_cons, List.sum_nil, k5]
    omega
end K3
end K3GES

section K3HAS
set_option Elab.async false
set_option linter.all false
set_option maxRecDepth 100000
set_option maxHeartbeats 0
namespace K3
open Mi
/-! ### the file of a name -/
def headIs (s : List Nat) (r : Val) : Bool := match r with
  | .tup (.str a :: _) => a == s
  | _ => false
def tailOf (r : Val) : Val := match r with
  | .tup (_ :: q) => .tup q
  | v => v
def noFile : Val := .tup [.tup [.int 0, .int 0, .int 0], .non]
def fileAt (fs : List Val) (s : List Nat) : Val := match fs.find? (headIs s) with
  | some r => tailOf r
  | none => noFile
def wTold : List Nat := [116, 111, 108, 100]
def wTable : List Nat := [116, 97, 98, 108, 101]
def wName : List Nat := [110, 97, 109, 101]
def filesOf (v : Val) : List Val := match v with
  | .tup [_, .tup fs, _, _, _] => fs
  | _ => []
def nameOf (x : Val) : List Nat := match x with
  | .str s => s
  | _ => []
def tellW (v x : Val) : List Nat := if tableB v then (if nameB0 x then wTold else wName) else wTable
def tellV (v x : Val) : Val := if tableB v then (if nameB0 x then fileAt (filesOf v) (nameOf x) else .non) else .non
/-- a file's row -/
def fRow (r : Val) : Prop := ∃ a st con, r = .tup [.str a, st, con] ∧ stampB st = true ∧ conB con = true
theorem fRow_of {r : Val} (h : formB fFile r = true) : fRow r := by
  cases r with
  | tup xs =>
    match xs, h with
    | [a, st, con], h =>
      have h' : (nameB0 a && (stampB st && (conB con && true))) = true := h
      obtain ⟨h1, h2⟩ := and2 h'
      obtain ⟨h2, h3⟩ := and2 h2
      obtain ⟨s, rfl⟩ : ∃ s, a = .str s := by
        cases a <;> first | exact ⟨_, rfl⟩ | cases h1
      exact ⟨s, st, con, rfl, h2, by simpa using h3⟩
    | [], h => cases h
    | [a], h => exact absurd (and2 (show (nameB0 a && false) = true from h)).2 Bool.false_ne_true
    | [a, b], h => exact absurd (and2 (and2 (show (nameB0 a && (stampB b && false)) = true from h)).2).2 Bool.false_ne_true
    | a :: b :: c :: d :: r, h => exact absurd (and2 (and2 (and2 (show (nameB0 a && (stampB b && (conB c && false))) = true from h)).2).2).2 Bool.false_ne_true
  | _ => cases h
theorem table_files {v : Val} (h : tableB v = true) : ∃ c fs l d a, v = .tup [c, .tup fs, l, d, a] ∧ ∀ r ∈ fs, fRow r := by
  cases v with
  | tup xs =>
    match xs, h with
    | [c, f, l, d, a], h =>
      have h' : ((fromB c 0 && (rowsB (formB fFile) 1 f && rowsB (formB fLease) 2 l)) && (rowsB (formB fDone) 1 d && rowsB (formB fAside) 2 a)) = true := h
      have h1 := (and2 (and2 (and2 h').1).2).1
      cases f with
      | tup fs =>
        have h2 := (and2 (show (fs.all (formB fFile) && ascB (fs.map (keyV 1))) = true from h1)).1
        exact ⟨c, fs, l, d, a, rfl, fun r hr => fRow_of (List.all_eq_true.mp h2 r hr)⟩
      | _ => cases h1
    | [], h => cases h
    | [_], h => cases h
    | [_, _], h => cases h
    | [_, _, _], h => cases h
    | [_, _, _, _], h => cases h
    | _ :: _ :: _ :: _ :: _ :: _ :: _, h => cases h
  | _ => cases h
theorem str_of_name {x : Val} (h : nameB0 x = true) : ∃ s, x = .str s := by
  cases x <;> first | exact ⟨_, rfl⟩ | cases h
/-! row_of -/
def roB : Ss := .cons (.ite (.cmp .eq (.sl (.var 2) .none (.some (.bi .len (.var 1)))) (.var 1)) (.cons (.ret (.var 2)) .nil) .nil) .nil
theorem b46_eq : b46 = .cons (.loop (.one 2) (.seq (.var 0)) roB) (.cons (.ret (.cst .non)) .nil) := rfl
theorem ro_rounds (n : Nat) (all : List Val) (s : List Nat) (M : Store) (s0 : Option Val) : ∀ (fs : List Val) (s2 : Option Val), (∀ r ∈ fs, fRow r) → ∃ t, rounds (lpF (cfg n) (.one 2) roB) all [] fs [s0, some (.tup [.str s]), s2] M = match fs.find? (headIs s) with
    | some r => .ret r M
    | none => .nx [s0, some (.tup [.str s]), t] M
  | [], s2, _ => ⟨s2, by rw [rounds_nil0]; rfl⟩
  | r :: fs, s2, h => by
    obtain ⟨a, st, con, rfl, _, _⟩ := h r List.mem_cons_self
    have c1 : ev (cfg n) (.cmp .eq (.sl (.var 2) .none (.some (.bi .len (.var 1)))) (.var 1)) [s0, some (.tup [.str s]), some (.tup [.str a, st, con])] M = .ok (.bl (a == s)) M := by
      have e1 : ev (cfg n) (.sl (.var 2) .none (.some (.bi .len (.var 1)))) [s0, some (.tup [.str s]), some (.tup [.str a, st, con])] M = .ok (.tup [.str a]) M := by
        have ct : cut [Val.str a, st, con] none (some 1) = [.str a] := rfl
        simp [bi1, lenV, slV, ct]
      refine cmp_s (x := .tup [.str a]) (y := .tup [.str s]) (M1 := M) (M2 := M) e1 (by rw [s_var]; rfl) ?_
      rw [cm_eq_tt]
      simp [noRef, noRefs, depth, depths, eqV, eqVs]
    rw [rounds_cons0, lpF_one]
    show ∃ t, (exs (cfg n) roB [s0, some (.tup [.str s]), some (.tup [.str a, st, con])] M).turn _ = _
    have hh : headIs s (.tup [.str a, st, con]) = (a == s) := rfl
    rw [List.find?_cons, hh]
    cases hb : a == s with
    | true =>
      rw [hb] at c1
      have et : exs (cfg n) roB [s0, some (.tup [.str s]), some (.tup [.str a, st, con])] M = .ret (.tup [.str a, st, con]) M := by
        unfold roB
        rw [seq_ret (by rw [ite_t c1, seq_ret (ret_s (v := .tup [.str a, st, con]) (M1 := M) (by rw [s_var]; rfl))])]
      refine ⟨none, ?_⟩
      rw [et]
      rfl
    | false =>
      rw [hb] at c1
      obtain ⟨t, e⟩ := ro_rounds n all s M s0 fs (some (.tup [.str a, st, con])) fun r hr => h r (List.mem_cons_of_mem _ hr)
      have et : exs (cfg n) roB [s0, some (.tup [.str s]), some (.tup [.str a, st, con])] M = .nx [s0, some (.tup [.str s]), some (.tup [.str a, st, con])] M := by
        unfold roB
        rw [seq_nx (by rw [ite_f c1, xs_nil]), xs_nil]
      refine ⟨t, ?_⟩
      rw [et, Out.turn_nx, e]
theorem c_rowof (n : Nat) (fs : List Val) (s : List Nat) (M : Store) (h : ∀ r ∈ fs, fRow r) : call pg (n + 1) 46 [.tup fs, .tup [.str s]] M = .ok ((fs.find? (headIs s)).getD .non) M := by
  rw [call_s pg n 46 _ _ ⟨2, 3, b46⟩ rfl rfl]
  show back M (exs (cfg n) b46 [some (.tup fs), some (.tup [.str s]), none] M) = _
  obtain ⟨t, e⟩ := ro_rounds n fs s M (some (.tup fs)) fs none h
  have e2 : ex (cfg n) (.loop (.one 2) (.seq (.var 0)) roB) [some (.tup fs), some (.tup [.str s]), none] M = match fs.find? (headIs s) with
    | some r => .ret r M
    | none => .nx [some (.tup fs), some (.tup [.str s]), t] M := by
    rw [x_loop0, sS_seq, s_var]
    exact e
  rw [b46_eq]
  cases hf : fs.find? (headIs s) with
  | some r =>
    rw [hf] at e2
    rw [seq_ret e2, back_ret]
    rfl
  | none =>
    rw [hf] at e2
    rw [seq_nx e2, seq_ret (ret_s (s_cst .non)), back_ret]
    rfl
theorem c_fileat (n : Nat) {c l d a : Val} (fs : List Val) (s : List Nat) (M : Store) (h : ∀ r ∈ fs, fRow r) : call pg (n + 2) 54 [.tup [c, .tup fs, l, d, a], .str s] M = .ok (fileAt fs s) M := by
  rw [call_s pg (n + 1) 54 _ _ ⟨2, 3, b54⟩ rfl rfl]
  have k := c_rowof n fs s M h
  have i1 : itemAt [c, .tup fs, l, d, a] 1 = some (.tup fs) := rfl
  have l1 : (1 : Nat) ≤ LIM := by rw [lim_val]; omega
  cases hf : fs.find? (headIs s) with
  | none =>
    rw [hf] at k
    simp [b54, start, ixV, i1, l1, k, isNon, truth, lim2t, fileAt, hf, noFile]
  | some r =>
    rw [hf] at k
    obtain ⟨b, st, con, rfl, _, _⟩ := h r (List.mem_of_find?_eq_some hf)
    have ct : cut [Val.str b, st, con] (some 1) none = [st, con] := rfl
    simp [b54, start, ixV, i1, l1, k, isNon, truth, fileAt, hf, tailOf, slV, ct]
theorem b55_eq : b55 = .cons (.ite (.not (.call 50 (.cons (.var 0) .nil))) (.cons (.rais 0) .nil) .nil) (.cons (.ite (.not (.call 4 (.cons (.var 1) .nil))) (.cons (.rais 1) .nil) .nil) (.cons (.ret (.call 54 (.cons (.var 0) (.cons (.var 1) .nil)))) .nil)) := rfl
/-- file_of: what it tells or raises -/
theorem c_fileof (n : Nat) (v x : Val) (M : Store) (hv : inD 4 M v) (hx : inM M x) : ∃ X, call pg (n + 11) 55 [v, x] M = (if tableB v then (if nameB0 x then .ok (tellV v x) (M ++ X) else .exc ⟨1, none⟩ (M ++ X)) else .exc ⟨0, none⟩ (M ++ X)) := by
  rw [call_s pg (n + 10) 55 _ _ ⟨2, 2, b55⟩ rfl rfl]
  show ∃ X, back M (exs (cfg (n + 10)) b55 [some v, some x] M) = _
  obtain ⟨X, e⟩ := c_table n v M hv
  refine ⟨X, ?_⟩
  rw [b55_eq]
  have c1 : ev (cfg (n + 10)) (.not (.call 50 (.cons (.var 0) .nil))) [some v, some x] M = .ok (.bl (!tableB v)) (M ++ X) := not_s (by rw [call_1v (x := v) rfl]; exact e)
  cases hb : tableB v with
  | false =>
    rw [hb] at c1
    have : exs (cfg (n + 10)) (.cons (.ite (.not (.call 50 (.cons (.var 0) .nil))) (.cons (.rais 0) .nil) .nil) (.cons (.ite (.not (.call 4 (.cons (.var 1) .nil))) (.cons (.rais 1) .nil) .nil) (.cons (.ret (.call 54 (.cons (.var 0) (.cons (.var 1) .nil)))) .nil))) [some v, some x] M = .exc ⟨0, none⟩ [some v, some x] (M ++ X) := by
      rw [xs_cons, ite_t c1, xs_cons, x_rais]
      rfl
    rw [this]
    rfl
  | true =>
    rw [hb] at c1
    rw [seq_nx (σ1 := [some v, some x]) (M1 := M ++ X) (by rw [ite_f c1, xs_nil])]
    have c2 : ev (cfg (n + 10)) (.not (.call 4 (.cons (.var 1) .nil))) [some v, some x] (M ++ X) = .ok (.bl (!nameB0 x)) (M ++ X) := not_s (by rw [call_1v (x := x) rfl]; exact c_name (n + 9) x _ hx.more)
    cases hn : nameB0 x with
    | false =>
      rw [hn] at c2
      have : exs (cfg (n + 10)) (.cons (.ite (.not (.call 4 (.cons (.var 1) .nil))) (.cons (.rais 1) .nil) .nil) (.cons (.ret (.call 54 (.cons (.var 0) (.cons (.var 1) .nil)))) .nil)) [some v, some x] (M ++ X) = .exc ⟨1, none⟩ [some v, some x] (M ++ X) := by
        rw [xs_cons, ite_t c2, xs_cons, x_rais]
        rfl
      rw [this]
      rfl
    | true =>
      rw [hn] at c2
      rw [seq_nx (σ1 := [some v, some x]) (M1 := M ++ X) (by rw [ite_f c2, xs_nil])]
      obtain ⟨c, fs, l, d, a, rfl, hfs⟩ := table_files hb
      obtain ⟨s, rfl⟩ := str_of_name hn
      have e3 := c_fileat (n + 8) (c := c) (l := l) (d := d) (a := a) fs s (M ++ X) hfs
      rw [seq_ret (ret_s (v := fileAt fs s) (M1 := M ++ X) (by rw [call_2 (x := .tup [c, .tup fs, l, d, a]) (y := .str s) (M1 := M ++ X) (M2 := M ++ X) (by rw [s_var]; rfl) (by rw [s_var]; rfl)]; exact e3)), back_ret]
      simp only [tellV, hb, hn, if_true, filesOf, nameOf]
/-! what the law makes of it -/
def tdT (w : List Nat) : E := .tup (.cons (.cst (.str w)) (.cons (.cst .non) .nil))
theorem b101_eq : b101 = .cons (.set 2 (tdT [111, 116, 104, 101, 114])) (.cons (.tri (.cons (.set 2 (.tup (.cons (.cst (.str wTold)) (.cons (.call 55 (.cons (.var 0) (.cons (.var 1) .nil))) .nil)))) .nil) (.cons 0 (.cons (.set 2 (tdT wTable)) .nil) (.cons 1 (.cons (.set 2 (tdT wName)) .nil) (.cons 2 (.cons (.set 2 (tdT [111, 116, 104, 101, 114])) .nil) .nil)))) (.cons (.ret (.var 2)) .nil)) := rfl
theorem tdT_run {cf : Cf} {σ : St} {M : Store} (w : List Nat) : ev cf (tdT w) σ M = .ok (.tup [.str w, .non]) M := by
  unfold tdT
  exact tup_s (disp_c (s_cst _) (disp_1 (s_cst _))) (by simp)
theorem told_run (n : Nat) (v x : Val) (M : Store) (hv : inD 4 M v) (hx : inM M x) : ∃ X, call pg (n + 12) 101 [v, x] M = .ok (.tup [.str (tellW v x), tellV v x]) (M ++ X) := by
  rw [call_s pg (n + 11) 101 _ _ ⟨2, 3, b101⟩ rfl rfl]
  show ∃ X, back M (exs (cfg (n + 11)) b101 [some v, some x, none] M) = _
  obtain ⟨X, e⟩ := c_fileof n v x M hv hx
  refine ⟨X, ?_⟩
  rw [b101_eq, seq_nx (σ1 := [some v, some x, some (.tup [.str [111, 116, 104, 101, 114], .non])]) (M1 := M) (by rw [set_s (tdT_run _)]; rfl)]
  generalize ho : some (Val.tup [.str [111, 116, 104, 101, 114], .non]) = o2
  have ec : ev (cfg (n + 11)) (.call 55 (.cons (.var 0) (.cons (.var 1) .nil))) [some v, some x, o2] M = call pg (n + 11) 55 [v, x] M :=
    call_2 (x := v) (y := x) (M1 := M) (M2 := M) (by rw [s_var]; rfl) (by rw [s_var]; rfl)
  have hsub : pg.sub 0 0 = true ∧ pg.sub 1 0 = false ∧ pg.sub 1 1 = true := ⟨by decide +kernel, by decide +kernel, by decide +kernel⟩
  have fin : ∀ w u, ex (cfg (n + 11)) (.tri (.cons (.set 2 (.tup (.cons (.cst (.str wTold)) (.cons (.call 55 (.cons (.var 0) (.cons (.var 1) .nil))) .nil)))) .nil) (.cons 0 (.cons (.set 2 (tdT wTable)) .nil) (.cons 1 (.cons (.set 2 (tdT wName)) .nil) (.cons 2 (.cons (.set 2 (tdT [111, 116, 104, 101, 114])) .nil) .nil)))) [some v, some x, o2] M = .nx [some v, some x, some (.tup [.str w, u])] (M ++ X) → tellW v x = w → tellV v x = u → back M (exs (cfg (n + 11)) (.cons (.tri (.cons (.set 2 (.tup (.cons (.cst (.str wTold)) (.cons (.call 55 (.cons (.var 0) (.cons (.var 1) .nil))) .nil)))) .nil) (.cons 0 (.cons (.set 2 (tdT wTable)) .nil) (.cons 1 (.cons (.set 2 (tdT wName)) .nil) (.cons 2 (.cons (.set 2 (tdT [111, 116, 104, 101, 114])) .nil) .nil)))) (.cons (.ret (.var 2)) .nil)) [some v, some x, o2] M) = .ok (.tup [.str (tellW v x), tellV v x]) (M ++ X) := fun w u h h1 h2 => by
    rw [seq_nx h, seq_ret (ret_s (v := .tup [.str w, u]) (M1 := M ++ X) (by rw [s_var]; rfl)), back_ret, h1, h2]
  cases hb : tableB v with
  | false =>
    rw [hb] at e
    refine fin wTable .non ?_ (by simp [tellW, hb]) (by simp [tellV, hb])
    have eb : exs (cfg (n + 11)) (.cons (.set 2 (.tup (.cons (.cst (.str wTold)) (.cons (.call 55 (.cons (.var 0) (.cons (.var 1) .nil))) .nil)))) .nil) [some v, some x, o2] M = .exc ⟨0, none⟩ [some v, some x, o2] (M ++ X) := by
      rw [xs_cons, x_set, s_tup, ss_cons, s_cst, Res.bind_ok, ss_cons, ec, e]
      rfl
    rw [x_tri, eb]
    simp only [h_cons, hsub.1, if_true]
    rw [seq_nx (set_s (tdT_run wTable)), xs_nil]
    rfl
  | true =>
    cases hn : nameB0 x with
    | false =>
      rw [hb, hn] at e
      refine fin wName .non ?_ (by simp [tellW, hb, hn]) (by simp [tellV, hb, hn])
      have eb : exs (cfg (n + 11)) (.cons (.set 2 (.tup (.cons (.cst (.str wTold)) (.cons (.call 55 (.cons (.var 0) (.cons (.var 1) .nil))) .nil)))) .nil) [some v, some x, o2] M = .exc ⟨1, none⟩ [some v, some x, o2] (M ++ X) := by
        rw [xs_cons, x_set, s_tup, ss_cons, s_cst, Res.bind_ok, ss_cons, ec, e]
        rfl
      rw [x_tri, eb]
      simp only [h_cons, hsub.2.1, hsub.2.2, if_true]
      rw [if_neg (by decide), seq_nx (set_s (tdT_run wName)), xs_nil]
      rfl
    | true =>
      rw [hb, hn] at e
      refine fin wTold (tellV v x) ?_ (by simp [tellW, hb, hn]) rfl
      have e' : call pg (n + 11) 55 [v, x] M = .ok (tellV v x) (M ++ X) := by rw [e]; simp
      have eb : exs (cfg (n + 11)) (.cons (.set 2 (.tup (.cons (.cst (.str wTold)) (.cons (.call 55 (.cons (.var 0) (.cons (.var 1) .nil))) .nil)))) .nil) [some v, some x, o2] M = .nx [some v, some x, some (.tup [.str wTold, tellV v x])] (M ++ X) := by
        rw [seq_nx (set_s (v := .tup [.str wTold, tellV v x]) (M1 := M ++ X) (tup_s (disp_c (M1 := M) (s_cst _) (disp_1 (by rw [ec]; exact e'))) (by simp))), xs_nil]
        rfl
      rw [x_tri, eb]
/-! what the law finds by itself -/
def duB : Ss := .cons (.ite (.cmp .eq (.ix (.var 3) (.cst (.int 0))) (.var 1)) (.cons (.ret (.tup (.cons (.cst (.str wTold)) (.cons (.sl (.var 3) (.some (.cst (.int 1))) .none) .nil)))) .nil) .nil) .nil
def duEnd : E := .tup (.cons (.cst (.str wTold)) (.cons (.tup (.cons (.tup (.cons (.cst (.int 0)) (.cons (.cst (.int 0)) (.cons (.cst (.int 0)) .nil)))) (.cons (.cst .non) .nil))) .nil))
theorem b102_eq : b102 = .cons (.ite (.not (.var 2)) (.cons (.ret (tdT wTable)) .nil) .nil) (.cons (.ite (.not (.call 29 (.cons (.var 1) .nil))) (.cons (.ret (tdT wName)) .nil) .nil) (.cons (.loop (.one 3) (.seq (.ix (.var 0) (.cst (.int 1)))) duB) (.cons (.ret duEnd) .nil))) := rfl
theorem du_rounds (n : Nat) (all : List Val) (s : List Nat) (M : Store) (s0 s2 : Option Val) : ∀ (fs : List Val) (s3 : Option Val), (∀ r ∈ fs, fRow r) → ∃ t, rounds (lpF (cfg n) (.one 3) duB) all [] fs [s0, some (.str s), s2, s3] M = match fs.find? (headIs s) with
    | some r => .ret (.tup [.str wTold, tailOf r]) M
    | none => .nx [s0, some (.str s), s2, t] M
  | [], s3, _ => ⟨s3, by rw [rounds_nil0]; rfl⟩
  | r :: fs, s3, h => by
    obtain ⟨a, st, con, rfl, _, _⟩ := h r List.mem_cons_self
    have c1 : ev (cfg n) (.cmp .eq (.ix (.var 3) (.cst (.int 0))) (.var 1)) [s0, some (.str s), s2, some (.tup [.str a, st, con])] M = .ok (.bl (a == s)) M :=
      cmp_s (x := .str a) (y := .str s) (M1 := M) (M2 := M) (ix_s (x := .tup [.str a, st, con]) (y := .int 0) (M1 := M) (M2 := M) (by rw [s_var]; rfl) (s_cst _) (first _ _)) (by rw [s_var]; rfl) rfl
    rw [rounds_cons0, lpF_one]
    show ∃ t, (exs (cfg n) duB [s0, some (.str s), s2, some (.tup [.str a, st, con])] M).turn _ = _
    have hh : headIs s (.tup [.str a, st, con]) = (a == s) := rfl
    rw [List.find?_cons, hh]
    cases hb : a == s with
    | true =>
      rw [hb] at c1
      refine ⟨none, ?_⟩
      have e2 : ev (cfg n) (.tup (.cons (.cst (.str wTold)) (.cons (.sl (.var 3) (.some (.cst (.int 1))) .none) .nil))) [s0, some (.str s), s2, some (.tup [.str a, st, con])] M = .ok (.tup [.str wTold, .tup [st, con]]) M := by
        have ct : cut [Val.str a, st, con] (some 1) none = [st, con] := rfl
        refine tup_s (disp_c (s_cst _) (disp_1 ?_)) (by simp)
        simp [slV, ct]
      have et : exs (cfg n) duB [s0, some (.str s), s2, some (.tup [.str a, st, con])] M = .ret (.tup [.str wTold, .tup [st, con]]) M := by
        unfold duB
        rw [seq_ret (by rw [ite_t c1, seq_ret (ret_s e2)])]
      rw [et]
      rfl
    | false =>
      rw [hb] at c1
      obtain ⟨t, e⟩ := du_rounds n all s M s0 s2 fs (some (.tup [.str a, st, con])) fun r hr => h r (List.mem_cons_of_mem _ hr)
      have et : exs (cfg n) duB [s0, some (.str s), s2, some (.tup [.str a, st, con])] M = .nx [s0, some (.str s), s2, some (.tup [.str a, st, con])] M := by
        unfold duB
        rw [seq_nx (by rw [ite_f c1, xs_nil]), xs_nil]
      refine ⟨t, ?_⟩
      rw [et, Out.turn_nx, e]
theorem due_run (n : Nat) (v x : Val) (M : Store) (hx : inM M x) : call pg (n + 2) 102 [v, x, .bl (tableB v)] M = .ok (.tup [.str (tellW v x), tellV v x]) M := by
  rw [call_s pg (n + 1) 102 _ _ ⟨3, 4, b102⟩ rfl rfl]
  show back M (exs (cfg (n + 1)) b102 [some v, some x, some (.bl (tableB v)), none] M) = _
  rw [b102_eq]
  have c1 : ev (cfg (n + 1)) (.not (.var 2)) [some v, some x, some (.bl (tableB v)), none] M = .ok (.bl (!tableB v)) M := not_s (by rw [s_var]; rfl)
  cases hb : tableB v with
  | false =>
    rw [hb] at c1
    rw [seq_ret (by rw [ite_t c1, seq_ret (ret_s (tdT_run wTable))]), back_ret]
    simp [tellW, tellV, hb]
  | true =>
    rw [hb] at c1
    rw [seq_nx (σ1 := [some v, some x, some (.bl true), none]) (M1 := M) (by rw [ite_f c1, xs_nil])]
    have c2 : ev (cfg (n + 1)) (.not (.call 29 (.cons (.var 1) .nil))) [some v, some x, some (.bl true), none] M = .ok (.bl (!nameB0 x)) M := not_s (by rw [call_1v (x := x) rfl]; exact l_name n x M hx)
    cases hn : nameB0 x with
    | false =>
      rw [hn] at c2
      rw [seq_ret (by rw [ite_t c2, seq_ret (ret_s (tdT_run wName))]), back_ret]
      simp [tellW, tellV, hb, hn]
    | true =>
      rw [hn] at c2
      rw [seq_nx (σ1 := [some v, some x, some (.bl true), none]) (M1 := M) (by rw [ite_f c2, xs_nil])]
      obtain ⟨c, fs, l, d, a, rfl, hfs⟩ := table_files hb
      obtain ⟨s, rfl⟩ := str_of_name hn
      obtain ⟨t, e⟩ := du_rounds (n + 1) fs s M (some (.tup [c, .tup fs, l, d, a])) (some (.bl true)) fs none hfs
      have e2 : ex (cfg (n + 1)) (.loop (.one 3) (.seq (.ix (.var 0) (.cst (.int 1)))) duB) [some (.tup [c, .tup fs, l, d, a]), some (.str s), some (.bl true), none] M = match fs.find? (headIs s) with
        | some r => .ret (.tup [.str wTold, tailOf r]) M
        | none => .nx [some (.tup [c, .tup fs, l, d, a]), some (.str s), some (.bl true), t] M := by
        have ei : evS (cfg (n + 1)) (.seq (.ix (.var 0) (.cst (.int 1)))) [some (.tup [c, .tup fs, l, d, a]), some (.str s), some (.bl true), none] M = .ok (fs, []) M := by
          rw [sS_seq, ix_s (x := .tup [c, .tup fs, l, d, a]) (y := .int 1) (M1 := M) (M2 := M) (v := .tup fs) (by rw [s_var]; rfl) (s_cst _) rfl]
          rfl
        rw [x_loop0, ei, Out.on_ok]
        exact e
      have ew : tellW (.tup [c, .tup fs, l, d, a]) (.str s) = wTold := by simp [tellW, hb, hn]
      have evv : tellV (.tup [c, .tup fs, l, d, a]) (.str s) = fileAt fs s := by simp [tellV, hb, hn, filesOf, nameOf]
      rw [ew, evv]
      cases hf : fs.find? (headIs s) with
      | some r =>
        rw [hf] at e2
        rw [seq_ret e2, back_ret]
        simp only [fileAt, hf]
      | none =>
        rw [hf] at e2
        have e3 : ev (cfg (n + 1)) duEnd [some (.tup [c, .tup fs, l, d, a]), some (.str s), some (.bl true), t] M = .ok (.tup [.str wTold, noFile]) M := by
          unfold duEnd
          refine tup_s (disp_c (s_cst _) (disp_1 (tup_s (disp_c (tup_s (disp_c (s_cst _) (disp_c (s_cst _) (disp_1 (s_cst _)))) (by simp)) (disp_1 (s_cst _))) (by simp)))) (by simp)
        rw [seq_nx e2, seq_ret (ret_s e3), back_ret]
        simp only [fileAt, hf]
end K3
end K3HAS

section K3HBS
set_option Elab.async false
set_option linter.all false
set_option maxRecDepth 100000
set_option maxHeartbeats 0
namespace K3
open Mi
/-! ### alike, of a thing and itself -/
def plain : Nat → Val → Prop
  | 0, _ => False
  | d + 1, v => match v with
    | .non => True
    | .int _ => True
    | .str _ => True
    | .tup xs => xs.length ≤ 1000 ∧ ∀ x ∈ xs, plain d x
    | _ => False
def alL : E := .bil .all (.comp [2] (.one 2) (.rng (.bi .len (.var 1))) .nil (.call 99 (.cons (.ix (.var 0) (.var 2)) (.cons (.ix (.var 1) (.var 2)) .nil))))
def al1 : S := .ite (.isi (.var 1) .tuple) (.cons (.ite (.or (.not (.isi (.var 0) .tuple)) (.cmp .ne (.bi .len (.var 0)) (.bi .len (.var 1)))) (.cons (.ret (.cst (.bl false))) .nil) .nil) (.cons (.ret alL) .nil)) .nil
def al2 : S := .ite (.cmp .isN (.var 1) (.cst .non)) (.cons (.ret (.cmp .isN (.var 0) (.cst .non))) .nil) .nil
def al3 : S := .ite (.isi (.var 1) .str) (.cons (.ret (.and (.isi (.var 0) .str) (.cmp .eq (.var 0) (.var 1)))) .nil) .nil
def al4 : S := .ret (.and (.isi (.var 0) .int) (.and (.not (.isi (.var 0) .bool)) (.cmp .eq (.var 0) (.var 1))))
theorem b99_eq : b99 = .cons al1 (.cons al2 (.cons al3 (.cons al4 .nil))) := rfl
theorem l_alike : ∀ (d n : Nat) (v : Val) (M : Store), plain d v → call pg (n + d) 99 [v, v] M = .ok (.bl true) M
  | 0, _, _, _, h => h.elim
  | d + 1, n, v, M, h => by
    have e0 : n + (d + 1) = (n + d) + 1 := by omega
    rw [e0, call_s pg (n + d) 99 _ _ ⟨2, 3, b99⟩ rfl rfl]
    show back M (exs (cfg (n + d)) b99 [some v, some v, none] M) = _
    rw [b99_eq]
    have i1 : ∀ (c : Cl) (b : Bool), isOf c v M = some b → ev (cfg (n + d)) (.isi (.var 1) c) [some v, some v, none] M = .ok (.bl b) M := fun c b e => isi_s (i := 1) (x := v) rfl e
    have i0 : ∀ (c : Cl) (b : Bool), isOf c v M = some b → ev (cfg (n + d)) (.isi (.var 0) c) [some v, some v, none] M = .ok (.bl b) M := fun c b e => isi_s (i := 0) (x := v) rfl e
    have n1 : ev (cfg (n + d)) (.cmp .isN (.var 1) (.cst .non)) [some v, some v, none] M = .ok (.bl (isNon v)) M := cmp_s (x := v) (y := .non) (M1 := M) (M2 := M) (by rw [s_var]; rfl) (s_cst _) rfl
    have n0 : ev (cfg (n + d)) (.cmp .isN (.var 0) (.cst .non)) [some v, some v, none] M = .ok (.bl (isNon v)) M := cmp_s (x := v) (y := .non) (M1 := M) (M2 := M) (by rw [s_var]; rfl) (s_cst _) rfl
    have sk1 : isOf .tuple v M = some false → ∀ r, exs (cfg (n + d)) (.cons al1 r) [some v, some v, none] M = exs (cfg (n + d)) r [some v, some v, none] M := fun e r => by
      rw [seq_nx (by unfold al1; rw [ite_f (i1 _ _ e), xs_nil])]
    have sk2 : isNon v = false → ∀ r, exs (cfg (n + d)) (.cons al2 r) [some v, some v, none] M = exs (cfg (n + d)) r [some v, some v, none] M := fun e r => by
      rw [e] at n1
      rw [seq_nx (by unfold al2; rw [ite_f n1, xs_nil])]
    have sk3 : isOf .str v M = some false → ∀ r, exs (cfg (n + d)) (.cons al3 r) [some v, some v, none] M = exs (cfg (n + d)) r [some v, some v, none] M := fun e r => by
      rw [seq_nx (by unfold al3; rw [ite_f (i1 _ _ e), xs_nil])]
    cases v with
    | non =>
      rw [sk1 rfl, seq_ret (v := .bl true) (M1 := M) (by unfold al2; rw [ite_t n1, seq_ret (ret_s n0)]; rfl), back_ret]
    | int i =>
      have ce : ev (cfg (n + d)) (.cmp .eq (.var 0) (.var 1)) [some (.int i), some (.int i), none] M = .ok (.bl true) M := cmp_s (x := .int i) (y := .int i) (M1 := M) (M2 := M) (by rw [s_var]; rfl) (by rw [s_var]; rfl) (by simp)
      rw [sk1 rfl, sk2 rfl, sk3 rfl, seq_ret (v := .bl true) (M1 := M) (by unfold al4; rw [ret_s]; rw [and_t (i0 .int true rfl), and_t (not_s (k := false) (i0 .bool false rfl)), ce]), back_ret]
    | str s =>
      have ce : ev (cfg (n + d)) (.cmp .eq (.var 0) (.var 1)) [some (.str s), some (.str s), none] M = .ok (.bl true) M := cmp_s (x := .str s) (y := .str s) (M1 := M) (M2 := M) (by rw [s_var]; rfl) (by rw [s_var]; rfl) (by simp)
      rw [sk1 rfl, sk2 rfl, seq_ret (v := .bl true) (M1 := M) (by unfold al3; rw [ite_t (i1 .str true rfl), seq_ret (ret_s (v := .bl true) (M1 := M) (by rw [and_t (i0 .str true rfl), ce]))]), back_ret]
    | tup xs =>
      have hl := h.1
      have c1 : ev (cfg (n + d)) (.or (.not (.isi (.var 0) .tuple)) (.cmp .ne (.bi .len (.var 0)) (.bi .len (.var 1)))) [some (.tup xs), some (.tup xs), none] M = .ok (.bl false) M := by
        rw [or_f (not_s (k := true) (i0 .tuple true rfl))]
        exact cmp_s (x := .int (xs.length : Nat)) (y := .int (xs.length : Nat)) (M1 := M) (M2 := M) (by rw [s_bi, s_var]; rfl) (by rw [s_bi, s_var]; rfl) (by simp)
      have e1 : ev (cfg (n + d)) alL [some (.tup xs), some (.tup xs), none] M = .ok (.bl true) M := by
        unfold alL
        rw [all_rngB (j := (xs.length : Nat)) (fun _ => true) (by rw [s_bi, s_var]; rfl) (by omega) (by omega) fun k hk => ?_]
        · simp
        · have hk2 : k < xs.length := by omega
          have ei : itemAt xs ((k : Nat) : Int) = some xs[k] := by
            unfold itemAt place
            rw [if_pos (by omega), if_pos (by omega)]
            simp [hk2]
          refine (call_2 (x := xs[k]) (y := xs[k]) (M1 := M) (M2 := M) (ix_s (x := .tup xs) (y := .int (k : Nat)) (M1 := M) (M2 := M) (by rw [s_var]; rfl) (by rw [s_var]; rfl) ei) (ix_s (x := .tup xs) (y := .int (k : Nat)) (M1 := M) (M2 := M) (by rw [s_var]; rfl) (by rw [s_var]; rfl) ei)).trans ?_
          exact l_alike d n _ M (h.2 _ (List.getElem_mem hk2))
      rw [seq_ret (v := .bl true) (M1 := M) (by
        unfold al1
        rw [ite_t (i1 .tuple true rfl), seq_nx (σ1 := [some (.tup xs), some (.tup xs), none]) (M1 := M) (by rw [ite_f c1, xs_nil]), seq_ret (ret_s e1)]), back_ret]
    | _ => exact h.elim
theorem plain_stamp {st : Val} (h : stampB st = true) : plain 2 st := by
  cases st with
  | tup xs =>
    match xs, h with
    | [a, b, c], h =>
      have h' : ((fromB a 1 && cliB b && fromB c 1) || (isW a && isW b && isW c && eqVs [a, b, c] [.int 0, .int 0, .int 0])) = true := h
      have w : isW a = true ∧ isW b = true ∧ isW c = true := by
        rcases Bool.or_eq_true _ _ ▸ h' with q | q
        · exact ⟨from_isW (and2 (and2 q).1).1, cli_isW (and2 (and2 q).1).2, from_isW (and2 q).2⟩
        · exact ⟨(and2 (and2 (and2 q).1).1).1, (and2 (and2 (and2 q).1).1).2, (and2 (and2 q).1).2⟩
      refine ⟨by simp, fun x hx => ?_⟩
      have : x = a ∨ x = b ∨ x = c := by simpa using hx
      rcases this with rfl | rfl | rfl
      · obtain ⟨i, rfl⟩ := isW_int w.1; trivial
      · obtain ⟨i, rfl⟩ := isW_int w.2.1; trivial
      · obtain ⟨i, rfl⟩ := isW_int w.2.2; trivial
    | [], h => cases h
    | [_], h => cases h
    | [_, _], h => cases h
    | _ :: _ :: _ :: _ :: _, h => cases h
  | _ => cases h
theorem plain_con {c : Val} (h : conB c = true) : plain 2 c := by
  cases c with
  | non => trivial
  | str s => trivial
  | _ => cases h
theorem plain_tell (v x : Val) : plain 3 (tellV v x) := by
  unfold tellV
  split
  · rename_i hb
    split
    · rename_i hn
      obtain ⟨c, fs, l, d, a, rfl, hfs⟩ := table_files hb
      show plain 3 (fileAt fs (nameOf x))
      unfold fileAt
      split
      · rename_i r hr
        obtain ⟨b, st, con, rfl, h1, h2⟩ := hfs r (List.mem_of_find?_eq_some hr)
        refine ⟨by simp, fun y hy => ?_⟩
        have : y = st ∨ y = con := by simpa using hy
        rcases this with rfl | rfl
        · exact plain_stamp h1
        · exact plain_con h2
      · refine ⟨by simp, fun y hy => ?_⟩
        have : y = .tup [.int 0, .int 0, .int 0] ∨ y = .non := by simpa using hy
        rcases this with rfl | rfl
        · exact plain_stamp (by decide)
        · trivial
    · trivial
  · trivial
/-! ### the thing: any, or the table spoilt at so many places -/
theorem fit_inD {o : Obj} {ns : List Int} {T M : Store} (hS : S0 o ns T M) {k : Nat} (hk : k ≤ 1000) : ∀ {d n : Nat} {v : Val}, fit n k T v → inD d M v
  | 0, n, v, f => fit_in hS f
  | d + 1, 0, v, f => f.elim
  | d + 1, n + 1, v, f => ⟨fit_in hS f, fun xs e => by subst e; exact ⟨by have := f.1; omega, fun y hy => fit_inD hS hk (f.2 y hy)⟩⟩
theorem nodes_cnt {T : Store} : ∀ {n k : Nat} {v : Val}, fit n k T v → nodesV v ≤ (cnt n T v : Nat)
  | 0, _, _, f => f.elim
  | n + 1, k, v, f => by
    have hp := cnt_pos (n + 1) T v
    cases v with
    | tup xs =>
      have : ∀ ys : List Val, (∀ y ∈ ys, y ∈ xs) → nodesL ys ≤ (((ys.map (cnt n T)).sum : Nat) : Int) := by
        intro ys
        induction ys with
        | nil => intro _; simp [nodesL]
        | cons y ys ih =>
          intro h
          have h1 := nodes_cnt (f.2 y (h y List.mem_cons_self))
          have h2 := ih fun z hz => h z (List.mem_cons_of_mem _ hz)
          simp only [nodesL, List.map_cons, List.sum_cons]
          push_cast
          omega
      have h := this xs fun _ hy => hy
      rw [cnt_tup]
      simp only [nodesV]
      push_cast
      push_cast at h
      omega
    | _ => simp only [nodesV]; omega
def thB : Ss := .cons (.set 3 (.call 22 (.cons (.var 3) (.cons (.call 14 (.cons (.var 0) (.cons (.call 20 (.cons (.var 3) .nil)) .nil))) (.cons (.var 0) .nil))))) .nil
theorem th_turn (f m k w : Nat) {o : Obj} {ns : List Int} {T M : Store} (h : S0 o ns T M) (x : Val) (s1 s2 s4 : Option Val) (fx : fit m k T x) (hk : k ≤ 1000) (hw : cnt m T x ≤ w) (hw2 : w ≤ 100000) :
    ∃ v X M', exs (cfg (f + m + 8)) thB [some (.ref 2), s1, s2, some x, s4] M = .nx [some (.ref 2), s1, s2, some v, s4] M' ∧ S0 o ns (T ++ X) M' ∧ fit (m + 2) (k + 1) (T ++ X) v ∧ cnt (m + 2) (T ++ X) v ≤ 2 * w + 100 := by
  have en := c_nodes o ns m (f + 8) k h fx hk
  rw [show f + 8 + m = f + m + 8 by omega] at en
  have hp := nodes_one x
  have hq := nodes_cnt fx
  obtain ⟨r, M1, r0, r1, e1, h1⟩ := draw (f + m + 5) (nodesV x) (by omega) (by omega) h
  obtain ⟨v, X, M', e, h', f', c'⟩ := spoiltw o ns m f k x r h1 fx r0 r1 hk
  refine ⟨v, X, M', ?_, h', f', by omega⟩
  unfold thB
  have ed : ev (cfg (f + m + 8)) (.call 14 (.cons (.var 0) (.cons (.call 20 (.cons (.var 3) .nil)) .nil))) [some (.ref 2), s1, s2, some x, s4] M = .ok (.int r) M1 :=
    (call_2 (x := .ref 2) (y := .int (nodesV x)) (M1 := M) (M2 := M) (by rw [s_var]; rfl) ((call_1v (x := x) rfl).trans en)).trans e1
  have es : ev (cfg (f + m + 8)) (.call 22 (.cons (.var 3) (.cons (.call 14 (.cons (.var 0) (.cons (.call 20 (.cons (.var 3) .nil)) .nil))) (.cons (.var 0) .nil)))) [some (.ref 2), s1, s2, some x, s4] M = .ok v M' := by
    rw [s_call, ss_cons, s_var]
    show ((Res.ok x M).bind _).bind _ = _
    rw [Res.bind_ok, ss_cons, ed, Res.bind_ok, ss_cons, s_var]
    show ((((Res.ok (Val.ref 2) M1).bind _).bind _).bind _).bind _ = _
    simp only [Res.bind_ok, ss_nil]
    exact e
  rw [seq_nx (set_s es), xs_nil]
  rfl
def okThing (T : Store) (v : Val) : Prop := (fit 9 32 T v ∧ cnt 9 T v ≤ 9900) ∨ fit 7 0 T v
theorem okThing.more {T X : Store} {v : Val} (h : okThing T v) : okThing (T ++ X) v := by
  rcases h with ⟨h1, h2⟩ | h
  · exact .inl ⟨fit_more (Nat.le_refl _) (Nat.le_refl _) h1, by rw [cnt_more (Nat.le_refl _) h1]; exact h2⟩
  · exact .inr (fit_more (Nat.le_refl _) (Nat.le_refl _) h)
theorem okThing.inD {o : Obj} {ns : List Int} {T M : Store} {v : Val} (h : okThing T v) (hS : S0 o ns T M) (d : Nat) : inD d M v := by
  rcases h with ⟨h, _⟩ | h
  · exact fit_inD hS (by omega) h
  · exact fit_inD hS (by omega) h
theorem cnt_fit1 {T : Store} : ∀ {n k : Nat} {v : Val}, fit (n + 1) k T v → cnt (n + 1) T v ≤ nbN n k
  | 0, k, v, h => by
    cases v with
    | tup xs =>
      have : xs = [] := by
        cases xs with
        | nil => rfl
        | cons y ys => exact (h.2 y List.mem_cons_self).elim
      subst this
      simp [cnt, nbN]
    | ref j =>
      obtain ⟨h3, h⟩ := h
      simp only [cnt, nbN]
      cases e : T[j - 3]? with
      | none => rw [e] at h; exact h.elim
      | some ob =>
        rw [e] at h
        cases ob with
        | lst xs =>
          have : xs = [] := by
            cases xs with
            | nil => rfl
            | cons y ys => exact (h.2 y List.mem_cons_self).elim
          subst this
          simp
        | dic kvs =>
          have : kvs = [] := by
            cases kvs with
            | nil => rfl
            | cons y ys => exact (h.2 y List.mem_cons_self).1.elim
          subst this
          simp
        | exv c => exact Nat.le_refl _
        | dit c => exact h.elim
    | _ => simp [cnt, nbN]
  | n + 1, k, v, h => by
    have hp := nbN_pos n k
    cases v with
    | tup xs =>
      rw [cnt_tup]
      simp only [nbN]
      have h1 := sum_le (f := cnt (n + 1) T) (b := nbN n k) fun x hx => cnt_fit1 (h.2 x hx)
      have h2 : xs.length * nbN n k ≤ (4 + k) * nbN n k := Nat.mul_le_mul_right _ h.1
      omega
    | ref j =>
      obtain ⟨h3, h⟩ := h
      cases e : T[j - 3]? with
      | none => rw [e] at h; exact h.elim
      | some ob =>
        rw [e] at h
        cases ob with
        | lst xs =>
          rw [cnt_ref e]
          simp only [nbN]
          have h1 := sum_le (f := cnt (n + 1) T) (b := nbN n k) fun x hx => cnt_fit1 (h.2 x hx)
          have h2 : xs.length * nbN n k ≤ (4 + k) * nbN n k := Nat.mul_le_mul_right _ h.1
          omega
        | dic kvs =>
          have ec : cnt (n + 2) T (.ref j) = 1 + (kvs.map fun p => cnt (n + 1) T p.1 + cnt (n + 1) T p.2).sum := by
            conv => lhs; unfold cnt
            simp only [e]
          rw [ec]
          simp only [nbN]
          have h1 := sum_le (f := fun p : Val × Val => cnt (n + 1) T p.1 + cnt (n + 1) T p.2) (b := nbN n k + nbN n k) (xs := kvs) fun p hp => Nat.add_le_add (cnt_fit1 (h.2 p hp).1) (cnt_fit1 (h.2 p hp).2)
          have h2 : kvs.length * (nbN n k + nbN n k) ≤ 2 * (nbN n k + nbN n k) := Nat.mul_le_mul_right _ h.1
          have h3 : 4 * nbN n k ≤ (4 + k) * nbN n k := Nat.mul_le_mul_right _ (by omega)
          omega
        | exv c =>
          have ec : cnt (n + 2) T (.ref j) = 1 := by
            conv => lhs; unfold cnt
            simp only [e]
          rw [ec]
          simp only [nbN]
          omega
        | dit c => exact h.elim
    | _ =>
      simp only [cnt, nbN]
      omega
theorem okThing.repr {T : Store} {v : Val} (h : okThing T v) : ∃ z, ∀ o ns X M, S0 o ns (T ++ X) M → pg.repr v M = some z := by
  rcases h with ⟨h1, h2⟩ | h
  · refine repw (by omega) (by omega) h1 ?_
    have : cnt 9 T v * B 32 ≤ 9900 * B 32 := Nat.mul_le_mul_right _ h2
    refine Nat.le_trans this ?_
    rw [lim_val]
    decide
  · refine repw (by omega) (by omega) h ?_
    have : cnt 7 T v * B 0 ≤ nbN 6 0 * B 0 := Nat.mul_le_mul_right _ (cnt_fit1 h)
    refine Nat.le_trans this ?_
    rw [lim_val]
    decide
def thN : E := .ixl (.disp (.cons (.cst (.int 0)) (.cons (.cst (.int 1)) (.cons (.cst (.int 1)) (.cons (.cst (.int 2)) (.cons (.cst (.int 0)) (.cons (.cst (.int 0)) (.cons (.cst (.int 1)) (.cons (.cst (.int 0)) (.cons (.cst (.int 0)) .nil)))))))))) (.var 2)
theorem b35_eq : b35 = .cons (.set 2 (.call 14 (.cons (.var 0) (.cons (.cst (.int 9)) .nil)))) (.cons (.ite (.cmp .eq (.var 2) (.cst (.int 0))) (.cons (.ret (.call 19 (.cons (.var 0) (.cons (.cst (.int 3)) .nil)))) .nil) .nil) (.cons (.set 3 (.var 1)) (.cons (.loop (.one 4) (.rng thN) thB) (.cons (.ret (.var 3)) .nil)))) := rfl
theorem thing_p (f : Nat) {o : Obj} {ns : List Int} {T M : Store} (h : S0 o ns T M) (v0 : Val) (hv : goodTable v0) : ∃ v X M', call pg (f + 16) 35 [.ref 2, v0] M = .ok v M' ∧ S0 o ns (T ++ X) M' ∧ okThing (T ++ X) v := by
  rw [call_s pg (f + 15) 35 _ _ ⟨2, 5, b35⟩ rfl rfl]
  show ∃ v X M', back M (exs (cfg (f + 15)) b35 [some (.ref 2), some v0, none, none, none] M) = _ ∧ _
  rw [b35_eq]
  obtain ⟨q, M1, q0, q1, e1, h1⟩ := draw (f + 12) 9 (by decide) (by decide) h
  have ed : ev (cfg (f + 15)) (.call 14 (.cons (.var 0) (.cons (.cst (.int 9)) .nil))) [some (.ref 2), some v0, none, none, none] M = .ok (.int q) M1 :=
    (call_2 (x := .ref 2) (y := .int 9) (M1 := M) (M2 := M) (by rw [s_var]; rfl) (s_cst _)).trans e1
  rw [seq_nx (σ1 := [some (.ref 2), some v0, some (.int q), none, none]) (M1 := M1) (by rw [set_s ed]; rfl)]
  have c1 : ev (cfg (f + 15)) (.cmp .eq (.var 2) (.cst (.int 0))) [some (.ref 2), some v0, some (.int q), none, none] M1 = .ok (.bl (q == 0)) M1 := cmp_s (x := .int q) (y := .int 0) (M1 := M1) (M2 := M1) (by rw [s_var]; rfl) (s_cst _) rfl
  by_cases hq : q = 0
  · subst hq
    obtain ⟨v, X, M2, e2, h2, f2⟩ := any o ns 3 (f + 7) h1
    refine ⟨v, X, M2, ?_, h2, .inr f2⟩
    have e3 : ev (cfg (f + 15)) (.call 19 (.cons (.var 0) (.cons (.cst (.int 3)) .nil))) [some (.ref 2), some v0, some (.int 0), none, none] M1 = .ok v M2 :=
      (call_2 (x := .ref 2) (y := .int 3) (M1 := M1) (M2 := M1) (by rw [s_var]; rfl) (s_cst _)).trans e2
    rw [seq_ret (by rw [ite_t c1, seq_ret (ret_s e3)]), back_ret]
  · rw [beq_eq_false_iff_ne.mpr hq] at c1
    rw [seq_nx (σ1 := [some (.ref 2), some v0, some (.int q), none, none]) (M1 := M1) (by rw [ite_f c1, xs_nil])]
    rw [seq_nx (σ1 := [some (.ref 2), some v0, some (.int q), some v0, none]) (M1 := M1) (by rw [set_s (v := v0) (M1 := M1) (by rw [s_var]; rfl)]; rfl)]
    have ht : ∃ t : Nat, t ≤ 2 ∧ itemAt [Val.int 0, .int 1, .int 1, .int 2, .int 0, .int 0, .int 1, .int 0, .int 0] q = some (.int (t : Nat)) := by
      have hq : q = 1 ∨ q = 2 ∨ q = 3 ∨ q = 4 ∨ q = 5 ∨ q = 6 ∨ q = 7 ∨ q = 8 := by omega
      rcases hq with rfl | rfl | rfl | rfl | rfl | rfl | rfl | rfl
      · exact ⟨1, by omega, rfl⟩
      · exact ⟨1, by omega, rfl⟩
      · exact ⟨2, by omega, rfl⟩
      · exact ⟨0, by omega, rfl⟩
      · exact ⟨0, by omega, rfl⟩
      · exact ⟨1, by omega, rfl⟩
      · exact ⟨0, by omega, rfl⟩
      · exact ⟨0, by omega, rfl⟩
    obtain ⟨t, t2, et⟩ := ht
    have l9 : (9 : Nat) ≤ LIM := by rw [lim_val]; omega
    have ea : ev (cfg (f + 15)) thN [some (.ref 2), some v0, some (.int q), some v0, none] M1 = .ok (.int (t : Nat)) M1 := by
      simp [thN, l9, asInt, et]
    obtain ⟨σ7, M7, e7, x, X, s4, rfl, h7, fx, cx⟩ := x_rng (cf := cfg (f + 15)) (i := 4) (b := thB) ea (by omega) (fun j σ M => ∃ x X s4, σ = [some (.ref 2), some v0, some (.int q), some x, s4] ∧ S0 o ns (T ++ X) M ∧ fit (5 + 2 * j) (30 + j) (T ++ X) x ∧ cnt (5 + 2 * j) (T ++ X) x + 100 ≤ 2500 * 2 ^ j) ⟨v0, [], none, rfl, by rw [List.append_nil]; exact h1, by rw [List.append_nil]; have := fit_more (X := T) (Nat.le_refl 5) (Nat.le_refl 30) hv.2.1; simpa using this, by
      rw [List.append_nil]
      have := cnt_more (X := T) (Nat.le_refl 5) hv.2.1
      rw [List.nil_append] at this
      rw [show 5 + 2 * 0 = 5 from rfl, this]
      have := hv.2.2
      omega⟩ (fun j σ M hj ⟨x, X, s4, eσ, hM, fx, cx⟩ => by
      subst eσ
      have hj2 : j = 0 ∨ j = 1 := by omega
      have hpow : 2500 * 2 ^ j ≤ 5000 := by rcases hj2 with rfl | rfl <;> decide
      obtain ⟨v, Y, M', e, h', f', c'⟩ := th_turn (f + 7 - (5 + 2 * j)) (5 + 2 * j) (30 + j) (2500 * 2 ^ j - 100) hM x (some v0) (some (.int q)) (some (.int (j : Nat))) fx (by omega) (by omega) (by omega)
      rw [show f + 7 - (5 + 2 * j) + (5 + 2 * j) + 8 = f + 15 by omega] at e
      rw [List.append_assoc] at h' f' c'
      refine ⟨_, M', e, v, X ++ Y, some (.int (j : Nat)), rfl, h', ?_, ?_⟩
      · rw [show 5 + 2 * (j + 1) = 5 + 2 * j + 2 by omega, show 30 + (j + 1) = 30 + j + 1 by omega]
        exact f'
      · rw [show 5 + 2 * (j + 1) = 5 + 2 * j + 2 by omega, Nat.pow_succ]
        omega)
    rw [seq_nx e7, seq_ret (ret_s (v := x) (M1 := M7) (by rw [s_var]; rfl)), back_ret]
    refine ⟨x, X, M7, rfl, h7, .inl ⟨fit_le (by omega) (by omega) fx, ?_⟩⟩
    rw [cnt_le' (by omega) fx]
    have ht3 : t = 0 ∨ t = 1 ∨ t = 2 := by omega
    have hpow : 2500 * 2 ^ t ≤ 10000 := by rcases ht3 with rfl | rfl | rfl <;> decide
    omega
end K3
end K3HBS

section K3HCS
set_option Elab.async false
set_option linter.all false
set_option maxRecDepth 100000
set_option maxHeartbeats 0
namespace K3
open Mi
theorem set_sv {cf : Cf} {σ : St} {M M1 : Store} {i : Nat} {e : E} {v : Val} {σ1 : St} (h : ev cf e σ M = .ok v M1) (hs : σ.set i (some v) = σ1) : ex cf (.set i e) σ M = .nx σ1 M1 := by
  rw [set_s h, hs]
theorem call_1x {cf : Cf} {σ : St} {M M1 : Store} {g i : Nat} {x v : Val} (h : σ[i]? = some (some x)) (h2 : cf.call g [x] M = .ok v M1) : ev cf (.call g (.cons (.var i) .nil)) σ M = .ok v M1 := by
  rw [call_1v h, h2]
theorem call_2x {cf : Cf} {σ : St} {M M1 : Store} {g i j : Nat} {x y v : Val} (h : σ[i]? = some (some x)) (h' : σ[j]? = some (some y)) (h2 : cf.call g [x, y] M = .ok v M1) : ev cf (.call g (.cons (.var i) (.cons (.var j) .nil))) σ M = .ok v M1 := by
  rw [call_2 (x := x) (y := y) (M1 := M) (M2 := M) (by rw [s_var, h]) (by rw [s_var, h']), h2]
theorem call_3x {cf : Cf} {σ : St} {M M1 : Store} {g i j k : Nat} {x y z v : Val} (h : σ[i]? = some (some x)) (h' : σ[j]? = some (some y)) (h3 : σ[k]? = some (some z)) (h2 : cf.call g [x, y, z] M = .ok v M1) : ev cf (.call g (.cons (.var i) (.cons (.var j) (.cons (.var k) .nil)))) σ M = .ok v M1 := by
  rw [s_call, ss_cons, s_var, h]
  simp only [Res.bind_ok, ss_cons, s_var, h', h3, ss_nil]
  exact h2
theorem repr_s {cf : Cf} {σ : St} {M : Store} {i : Nat} {v : Val} {z : List Nat} (h : σ[i]? = some (some v)) (h2 : cf.repr v M = some z) : ev cf (.bi .repr (.var i)) σ M = .ok (.str z) M := by
  rw [s_bi, s_var, h]
  simp only [Res.bind_ok, bi1, h2, Option.map_some, ofOpt_some]
def onC : E := .or (.cmp .ne (.ix (.var 9) (.cst (.int 0))) (.ix (.var 10) (.cst (.int 0)))) (.not (.call 99 (.cons (.ix (.var 9) (.cst (.int 1))) (.cons (.ix (.var 10) (.cst (.int 1))) .nil))))
def onB : Ss := .cons (.set 9 (.call 101 (.cons (.var 3) (.cons (.var 8) .nil)))) (.cons (.set 10 (.call 102 (.cons (.var 3) (.cons (.var 8) (.cons (.var 5) .nil))))) (.cons (.ite onC (.cons (.ret (.cst (.bl false))) .nil) .nil) .nil))
def onS : Src := .seq (.op .add (.var 1) (.lst (.disp (.cons (.call 18 (.cons (.var 0) .nil)) (.cons (.var 7) .nil)))))
def onA : E := .or (.not (.call 87 (.cons (.var 2) .nil))) (.or (.not (.isi (.var 6) .bool)) (.cmp .ne (.var 6) (.var 5)))
theorem b103_eq : b103 = .cons (.set 1 (.call 88 (.cons (.var 0) .nil))) (.cons (.set 2 (.call 94 (.cons (.var 0) (.cons (.var 1) .nil)))) (.cons (.set 3 (.call 35 (.cons (.var 0) (.cons (.var 2) .nil)))) (.cons (.set 4 (.bi .repr (.var 3))) (.cons (.set 5 (.call 87 (.cons (.var 3) .nil))) (.cons (.set 6 (.call 50 (.cons (.var 3) .nil))) (.cons (.ite onA (.cons (.ret (.cst (.bl false))) .nil) .nil) (.cons (.set 7 (.call 22 (.cons (.ix (.var 1) (.cst (.int 0))) (.cons (.cst (.int 0)) (.cons (.var 0) .nil))))) (.cons (.loop (.one 8) onS onB) (.cons (.ret (.cmp .eq (.bi .repr (.var 3)) (.var 4))) .nil))))))))) := rfl
theorem on_turn {o : Obj} {ns : List Int} {T M : Store} (h : S0 o ns T M) (v y : Val) (hv : okThing T v) (hy : inM M y) (s1 s2 s4 s6 s7 s8 s9 s10 : Option Val) :
    ∃ t9 t10 X, exs (cfg 38) onB [some (.ref 2), s1, s2, some v, s4, some (.bl (tableB v)), s6, s7, some y, s9, s10] M = .nx [some (.ref 2), s1, s2, some v, s4, some (.bl (tableB v)), s6, s7, some y, t9, t10] (M ++ X) := by
  obtain ⟨X, e1⟩ := told_run 26 v y M (hv.inD h 4) hy
  have e2 := due_run 36 v y (M ++ X) hy.more
  refine ⟨some (.tup [.str (tellW v y), tellV v y]), some (.tup [.str (tellW v y), tellV v y]), X, ?_⟩
  unfold onB
  rw [seq_nx (σ1 := [some (.ref 2), s1, s2, some v, s4, some (.bl (tableB v)), s6, s7, some y, some (.tup [.str (tellW v y), tellV v y]), s10]) (M1 := M ++ X) (set_sv (call_2x (x := v) (y := y) rfl rfl e1) rfl)]
  rw [seq_nx (σ1 := [some (.ref 2), s1, s2, some v, s4, some (.bl (tableB v)), s6, s7, some y, some (.tup [.str (tellW v y), tellV v y]), some (.tup [.str (tellW v y), tellV v y])]) (M1 := M ++ X) (set_sv (call_3x (x := v) (y := y) (z := .bl (tableB v)) rfl rfl rfl e2) rfl)]
  generalize hσ : [some (Val.ref 2), s1, s2, some v, s4, some (Val.bl (tableB v)), s6, s7, some y, some (Val.tup [.str (tellW v y), tellV v y]), some (Val.tup [.str (tellW v y), tellV v y])] = σ
  have v9 : σ[9]? = some (some (.tup [.str (tellW v y), tellV v y])) := by rw [← hσ]; rfl
  have v10 : σ[10]? = some (some (.tup [.str (tellW v y), tellV v y])) := by rw [← hσ]; rfl
  have ix : ∀ i j w, σ[i]? = some (some (.tup [.str (tellW v y), tellV v y])) → itemAt [Val.str (tellW v y), tellV v y] j = some w → ev (cfg 38) (.ix (.var i) (.cst (.int j))) σ (M ++ X) = .ok w (M ++ X) := fun i j w hi hj =>
    ix_s (x := .tup [.str (tellW v y), tellV v y]) (y := .int j) (M1 := M ++ X) (M2 := M ++ X) (by rw [s_var, hi]) (s_cst _) hj
  have c1 : ev (cfg 38) (.cmp .ne (.ix (.var 9) (.cst (.int 0))) (.ix (.var 10) (.cst (.int 0)))) σ (M ++ X) = .ok (.bl false) (M ++ X) :=
    cmp_s (x := .str (tellW v y)) (y := .str (tellW v y)) (M1 := M ++ X) (M2 := M ++ X) (ix 9 0 _ v9 rfl) (ix 10 0 _ v10 rfl) (by simp)
  have c2 : ev (cfg 38) (.call 99 (.cons (.ix (.var 9) (.cst (.int 1))) (.cons (.ix (.var 10) (.cst (.int 1))) .nil))) σ (M ++ X) = .ok (.bl true) (M ++ X) :=
    (call_2 (x := tellV v y) (y := tellV v y) (M1 := M ++ X) (M2 := M ++ X) (ix 9 1 _ v9 rfl) (ix 10 1 _ v10 rfl)).trans (l_alike 3 35 _ _ (plain_tell v y))
  have c3 : ev (cfg 38) onC σ (M ++ X) = .ok (.bl false) (M ++ X) := by
    unfold onC
    rw [or_f c1]
    exact not_s (k := true) c2
  rw [seq_nx (by rw [ite_f c3, xs_nil]), xs_nil]
theorem one_run {o : Obj} {ns : List Int} {T M : Store} (h : S0 o ns T M) : ∃ X M', call pg 39 103 [.ref 2] M = .ok (.bl true) M' ∧ S0 o ns (T ++ X) M' := by
  rw [call_s pg 38 103 _ _ ⟨1, 11, b103⟩ rfl rfl]
  show ∃ X M', back M (exs (cfg 38) b103 [some (.ref 2), none, none, none, none, none, none, none, none, none, none] M) = _ ∧ _
  rw [b103_eq]
  obtain ⟨xs, X1, M1, e1, h1, lX1, hN⟩ := pool_p 32 h
  obtain ⟨p, hp⟩ : ∃ p, p = T.length + 2 := ⟨_, rfl⟩
  rw [← hp] at e1 hN
  rw [seq_nx (σ1 := [some (.ref 2), some (.ref (p + 3)), none, none, none, none, none, none, none, none, none]) (M1 := M1) (set_sv (call_1x (x := .ref 2) rfl e1) rfl)]
  obtain ⟨v0, X2, M2, e2, h2, g0⟩ := table_p 30 h1 hN
  rw [seq_nx (σ1 := [some (.ref 2), some (.ref (p + 3)), some v0, none, none, none, none, none, none, none, none]) (M1 := M2) (set_sv (call_2x (x := .ref 2) (y := .ref (p + 3)) rfl rfl e2) rfl)]
  obtain ⟨v, X3, M3, e3, h3, ok⟩ := thing_p 22 h2 v0 g0
  rw [seq_nx (σ1 := [some (.ref 2), some (.ref (p + 3)), some v0, some v, none, none, none, none, none, none, none]) (M1 := M3) (set_sv (call_2x (x := .ref 2) (y := v0) rfl rfl e3) rfl)]
  obtain ⟨z, hz⟩ := ok.repr
  have z3 : pg.repr v M3 = some z := hz o ns [] M3 (by rw [List.append_nil]; exact h3)
  rw [seq_nx (σ1 := [some (.ref 2), some (.ref (p + 3)), some v0, some v, some (.str z), none, none, none, none, none, none]) (M1 := M3) (set_sv (repr_s (v := v) rfl z3) rfl)]
  rw [seq_nx (σ1 := [some (.ref 2), some (.ref (p + 3)), some v0, some v, some (.str z), some (.bl (tableB v)), none, none, none, none, none]) (M1 := M3) (set_sv (call_1x (x := v) rfl (l_table 30 v M3 (ok.inD h3 4))) rfl)]
  obtain ⟨X6, e6⟩ := c_table 28 v M3 (ok.inD h3 4)
  have h6 := h3.push X6
  rw [seq_nx (σ1 := [some (.ref 2), some (.ref (p + 3)), some v0, some v, some (.str z), some (.bl (tableB v)), some (.bl (tableB v)), none, none, none, none]) (M1 := M3 ++ X6) (set_sv (call_1x (x := v) rfl e6) rfl)]
  have d0 : inD 4 (M3 ++ X6) v0 := by
    have f0 : fit 5 30 (T ++ X1 ++ X2 ++ X3 ++ X6) v0 := by
      have := fit_more (X := T ++ X1 ++ X2 ++ X3 ++ X6) (Nat.le_refl 5) (Nat.le_refl 30) g0.2.1
      simpa using this
    exact fit_inD h6 (by omega) f0
  have cA : ev (cfg 38) onA [some (.ref 2), some (.ref (p + 3)), some v0, some v, some (.str z), some (.bl (tableB v)), some (.bl (tableB v)), none, none, none, none] (M3 ++ X6) = .ok (.bl false) (M3 ++ X6) := by
    have k1 : ev (cfg 38) (.not (.call 87 (.cons (.var 2) .nil))) [some (.ref 2), some (.ref (p + 3)), some v0, some v, some (.str z), some (.bl (tableB v)), some (.bl (tableB v)), none, none, none, none] (M3 ++ X6) = .ok (.bl false) (M3 ++ X6) := by
      have := l_table 30 v0 (M3 ++ X6) d0
      rw [g0.1] at this
      exact not_s (k := true) (call_1x (x := v0) rfl this)
    have k2 : ev (cfg 38) (.not (.isi (.var 6) .bool)) [some (.ref 2), some (.ref (p + 3)), some v0, some v, some (.str z), some (.bl (tableB v)), some (.bl (tableB v)), none, none, none, none] (M3 ++ X6) = .ok (.bl false) (M3 ++ X6) :=
      not_s (k := true) (isi_s (i := 6) (x := .bl (tableB v)) rfl rfl)
    unfold onA
    rw [or_f k1, or_f k2]
    exact cmp_s (x := .bl (tableB v)) (y := .bl (tableB v)) (M1 := M3 ++ X6) (M2 := M3 ++ X6) (by rw [s_var]; rfl) (by rw [s_var]; rfl) (by simp)
  rw [seq_nx (σ1 := [some (.ref 2), some (.ref (p + 3)), some v0, some v, some (.str z), some (.bl (tableB v)), some (.bl (tableB v)), none, none, none, none]) (M1 := M3 ++ X6) (by rw [ite_f cA, xs_nil])]
  have hN6 : Names (T ++ X1 ++ X2 ++ X3 ++ X6) p xs := hN.more.more.more
  have hx0 : 0 < xs.length := hN.pos
  obtain ⟨s0, es0, hs0⟩ := hN.nm xs[0] (List.getElem_mem hx0)
  have f0 : fit 1 0 (T ++ X1 ++ X2 ++ X3 ++ X6) xs[0] := by rw [es0]; exact name_fit hs0
  obtain ⟨odd, X8, M8, e8, h8, f8, _⟩ := spoiltw o ns 1 29 0 xs[0] 0 h6 f0 (by omega) (by rw [es0]; simp [nodesV]) (by omega)
  have g6 : (M3 ++ X6)[p + 3]? = some (.lst xs) := h6.gt hN6.at_
  have eo : ev (cfg 38) (.call 22 (.cons (.ix (.var 1) (.cst (.int 0))) (.cons (.cst (.int 0)) (.cons (.var 0) .nil)))) [some (.ref 2), some (.ref (p + 3)), some v0, some v, some (.str z), some (.bl (tableB v)), some (.bl (tableB v)), none, none, none, none] (M3 ++ X6) = .ok odd M8 := by
    have i0 : itemAt xs 0 = some xs[0] := by
      unfold itemAt place
      rw [if_pos (by omega), if_pos (by omega)]
      simp [hx0]
    rw [s_call, ss_cons, ix_s (x := .ref (p + 3)) (y := .int 0) (M1 := M3 ++ X6) (M2 := M3 ++ X6) (v := xs[0]) (by rw [s_var]; rfl) (s_cst _) (by simp only [ixV, g6, i0]), Res.bind_ok, ss_cons, s_cst, Res.bind_ok, ss_cons, s_var]
    show ((((Res.ok (Val.ref 2) (M3 ++ X6)).bind _).bind _).bind _).bind _ = _
    simp only [Res.bind_ok, ss_nil]
    exact e8
  rw [seq_nx (σ1 := [some (.ref 2), some (.ref (p + 3)), some v0, some v, some (.str z), some (.bl (tableB v)), some (.bl (tableB v)), some odd, none, none, none]) (M1 := M8) (set_sv eo rfl)]
  obtain ⟨s, M9, e9, h9, hs9⟩ := name_p 34 h8
  generalize hT8 : T ++ X1 ++ X2 ++ X3 ++ X6 ++ X8 = T8 at h8 h9 f8
  have hN8 : Names T8 p xs := by rw [← hT8]; exact hN6.more
  have ok8 : okThing T8 v := by rw [← hT8]; exact ok.more.more
  have l9 := h9.len
  have h10 := h9.push [.lst [.str s, odd]]
  have h11 := h10.push [.lst (xs ++ [.str s, odd])]
  have hpl : p < T8.length := (List.getElem?_eq_some_iff.mp hN8.at_).1
  have hev : evS (cfg 38) onS [some (.ref 2), some (.ref (p + 3)), some v0, some v, some (.str z), some (.bl (tableB v)), some (.bl (tableB v)), some odd, none, none, none] M8 = .ok (xs ++ [.str s, odd], [(T8.length + 4, xs ++ [.str s, odd])]) (M9 ++ [.lst [.str s, odd]] ++ [.lst (xs ++ [.str s, odd])]) := by
    have ga : (M9 ++ [Obj.lst [.str s, odd]])[p + 3]? = some (.lst xs) := h10.gt (by rw [List.getElem?_append_left hpl]; exact hN8.at_)
    have gb : (M9 ++ [Obj.lst [.str s, odd]])[M9.length]? = some (.lst [.str s, odd]) := by simp
    have gc : (M9 ++ [Obj.lst [.str s, odd]] ++ [Obj.lst (xs ++ [.str s, odd])])[T8.length + 4]? = some (.lst (xs ++ [.str s, odd])) := by
      have : T8.length + 4 = (M9 ++ [Obj.lst [.str s, odd]]).length := by simp; omega
      rw [this]
      simp
    have hll := hN.len
    have ed : evs (cfg 38) (.cons (.call 18 (.cons (.var 0) .nil)) (.cons (.var 7) .nil)) [some (.ref 2), some (.ref (p + 3)), some v0, some v, some (.str z), some (.bl (tableB v)), some (.bl (tableB v)), some odd, none, none, none] M8 = .ok [.str s, odd] M9 :=
      disp_c (call_1x (x := .ref 2) rfl e9) (disp_1 (by rw [s_var]; rfl))
    have el : ev (cfg 38) (.lst (.disp (.cons (.call 18 (.cons (.var 0) .nil)) (.cons (.var 7) .nil)))) [some (.ref 2), some (.ref (p + 3)), some v0, some v, some (.str z), some (.bl (tableB v)), some (.bl (tableB v)), some odd, none, none, none] M8 = .ok (.ref M9.length) (M9 ++ [.lst [.str s, odd]]) :=
      lst_s (by rw [sl_disp, ed, Res.bind_ok, if_pos (by rw [lim_val]; simp)])
    have eo : ev (cfg 38) (.op .add (.var 1) (.lst (.disp (.cons (.call 18 (.cons (.var 0) .nil)) (.cons (.var 7) .nil))))) [some (.ref 2), some (.ref (p + 3)), some v0, some v, some (.str z), some (.bl (tableB v)), some (.bl (tableB v)), some odd, none, none, none] M8 = .ok (.ref (M9 ++ [Obj.lst [.str s, odd]]).length) (M9 ++ [.lst [.str s, odd]] ++ [.lst (xs ++ [.str s, odd])]) := by
      refine op_s (x := .ref (p + 3)) (y := .ref M9.length) (M1 := M8) (M2 := M9 ++ [.lst [.str s, odd]]) (by rw [s_var]; rfl) el ?_
      have hle : xs.length + [Val.str s, odd].length ≤ LIM := by rw [lim_val]; simp; omega
      simp only [op2, ga, gb, hle, if_true]
    unfold onS
    rw [sS_seq, eo, Res.bind_ok]
    have hidx : (M9 ++ [Obj.lst [.str s, odd]]).length = T8.length + 4 := by simp; omega
    rw [hidx]
    simp only [itemsOf, gc, ofOpt_some]
  let P : List Val → St → Store → Prop := fun rest σ M => ∃ Y s8 s9 s10, σ = [some (.ref 2), some (.ref (p + 3)), some v0, some v, some (.str z), some (.bl (tableB v)), some (.bl (tableB v)), some odd, s8, s9, s10] ∧ S0 o ns (T8 ++ [.lst [.str s, odd]] ++ [.lst (xs ++ [.str s, odd])] ++ Y) M ∧ ∀ y ∈ rest, y ∈ xs ++ [.str s, odd]
  have hst : ∀ rest σ M, P rest σ M → still M (xs ++ [.str s, odd]) [(T8.length + 4, xs ++ [.str s, odd])] := fun rest σ M ⟨Y, s8, s9, s10, _, hM, _⟩ => ⟨hM.gt (j := T8.length + 1) (by simp), trivial⟩
  obtain ⟨σ', M12, e12, Y, s8, s9, s10, rfl, h12, _⟩ := rounds_onG (f := lpF (cfg 38) (.one 8) onB) (all := xs ++ [.str s, odd]) (g := [(T8.length + 4, xs ++ [.str s, odd])]) P hst (fun y rest σ M ⟨Y, s8, s9, s10, eσ, hM, hin⟩ => by
    subst eσ
    have hy : inM M y := by
      rcases List.mem_append.mp (hin y List.mem_cons_self) with q | q
      · obtain ⟨s, rfl, _⟩ := hN.nm y q; trivial
      · have : y = .str s ∨ y = odd := by simpa using q
        rcases this with rfl | rfl
        · trivial
        · have f9 : fit 3 1 (T8 ++ [.lst [.str s, y]] ++ [.lst (xs ++ [.str s, y])] ++ Y) y := by
            rw [List.append_assoc, List.append_assoc]
            exact fit_more (Nat.le_refl _) (Nat.le_refl _) f8
          exact fit_in hM f9
    obtain ⟨t9, t10, X, e⟩ := on_turn hM v y (by rw [List.append_assoc, List.append_assoc]; exact ok8.more) hy (some (.ref (p + 3))) (some v0) (some (.str z)) (some (.bl (tableB v))) (some odd) s8 s9 s10
    rw [lpF_one]
    refine ⟨_, M ++ X, e, Y ++ X, some y, t9, t10, rfl, ?_, fun w hw => hin w (List.mem_cons_of_mem _ hw)⟩
    have := hM.push X
    rwa [List.append_assoc] at this) (xs ++ [.str s, odd]) [some (.ref 2), some (.ref (p + 3)), some v0, some v, some (.str z), some (.bl (tableB v)), some (.bl (tableB v)), some odd, none, none, none] (M9 ++ [.lst [.str s, odd]] ++ [.lst (xs ++ [.str s, odd])]) ⟨[], none, none, none, rfl, by rw [List.append_nil]; exact h11, fun _ h => h⟩
  rw [seq_nx (σ1 := [some (.ref 2), some (.ref (p + 3)), some v0, some v, some (.str z), some (.bl (tableB v)), some (.bl (tableB v)), some odd, s8, s9, s10]) (M1 := M12) (by rw [x_loop0, hev, Out.on_ok]; exact e12)]
  have h12' : S0 o ns ((T ++ X1 ++ X2 ++ X3) ++ (X6 ++ X8 ++ [.lst [.str s, odd]] ++ [.lst (xs ++ [.str s, odd])] ++ Y)) M12 := by
    rw [← hT8] at h12
    simpa [List.append_assoc] using h12
  have z12 : pg.repr v M12 = some z := hz o ns _ M12 h12'
  refine ⟨X1 ++ X2 ++ X3 ++ (X6 ++ X8 ++ [.lst [.str s, odd]] ++ [.lst (xs ++ [.str s, odd])] ++ Y), M12, ?_, by simpa [List.append_assoc] using h12'⟩
  rw [seq_ret (ret_s (v := .bl true) (M1 := M12) (cmp_s (x := .str z) (y := .str z) (M1 := M12) (M2 := M12) (repr_s (v := v) rfl z12) (by rw [s_var]; rfl) (by simp))), back_ret]
/-! ### the law -/
theorem cut_all {α : Type} (xs : List α) (h : xs.length ≤ 63) : cut xs none (some 63) = xs := by
  have := cut_take xs 63
  rw [show ((63 : Nat) : Int) = 63 from rfl] at this
  rw [this, List.take_of_length_le h]
theorem c_well (n : Nat) (ns : List Int) (h : ns.length ≤ 63) : ∃ M', call pg (n + 1) 12 [.frz (ns.map Val.int)] [] = .ok (.ref 2) M' ∧ S0 (.lst (ns.map Val.int)) ns [] M' := by
  refine ⟨wellS (.lst (ns.map Val.int)) ns 0 0 1 [], ?_, 0, 0, 1, by omega, rfl⟩
  have hl : (ns.map Val.int).length ≤ 63 := by rw [List.length_map]; exact h
  have e0 : start ⟨1, 2, b12⟩ [.frz (ns.map Val.int)] = [some (.frz (ns.map Val.int)), none] := rfl
  rw [call_s pg n 12 _ _ ⟨1, 2, b12⟩ rfl rfl, e0]
  have ec : evL ⟨call pg n, pg.repr, pg.eqx, pg.sub⟩ (.comp [1] (.one 1) (.seq (.sl (.var 0) .none (.some (.cst (.int 63))))) .nil (.bi .int (.var 1))) [some (.frz (ns.map Val.int)), none] [] = .ok (ns.map Val.int) [.lst (ns.map Val.int)] := by
    have es : ev ⟨call pg n, pg.repr, pg.eqx, pg.sub⟩ (.sl (.var 0) .none (.some (.cst (.int 63)))) [some (.frz (ns.map Val.int)), none] [] = .ok (.ref 0) [.lst (ns.map Val.int)] := by
      simp [slV, cut_all _ hl]
    rw [evL_comp, sS_seq, es]
    have ei : itemsOf [Obj.lst (ns.map Val.int)] (.ref 0) = some (ns.map Val.int, [(0, ns.map Val.int)]) := rfl
    simp only [Res.bind_ok, ei, ofOpt_some]
    rw [turns_pure (M := [.lst (ns.map Val.int)]) (g := [(0, ns.map Val.int)]) ⟨rfl, trivial⟩ id fun x hm => ?_]
    · have : (ns.map Val.int).length ≤ LIM := by rw [lim_val]; omega
      simp [lcEnd]
      rw [lim_val]; omega
    · obtain ⟨i, _, rfl⟩ := List.mem_map.mp hm
      unfold lcTurn
      simp [put, wiped, bi1]
  simp [b12, ec, lim4, wellS]
def bareT : Val := .tup [.int 0, .tup [], .tup [], .tup [], .tup []]
theorem c_bare (n : Nat) (M : Store) : call pg (n + 1) 53 [] M = .ok bareT M := by
  rw [call_s pg n 53 _ _ ⟨0, 0, b53⟩ rfl rfl]
  simp [b53, start, lim5, bareT]
def lwA : E := .or (.not (.call 99 (.cons (.call 53 .nil) (.cons (.tup (.cons (.cst (.int 0)) (.cons (.tup .nil) (.cons (.tup .nil) (.cons (.tup .nil) (.cons (.tup .nil) .nil)))))) .nil)))) (.cmp .isNotN (.call 50 (.cons (.call 53 .nil) .nil)) (.cst (.bl true)))
def lwB : Ss := .cons (.ite (.not (.call 103 (.cons (.var 1) .nil))) (.cons (.ret (.cst (.bl false))) .nil) .nil) .nil
def lwN : E := .op .add (.cst (.int 1)) (.call 14 (.cons (.var 1) (.cons (.cst (.int 3)) .nil)))
theorem b104_eq : b104 = .cons (.set 1 (.call 12 (.cons (.var 0) .nil))) (.cons (.ite lwA (.cons (.ret (.cst (.bl false))) .nil) .nil) (.cons (.loop (.one 2) (.rng lwN) lwB) (.cons (.ret (.cst (.bl true))) .nil))) := rfl
theorem law_of (ns : List Int) (h : ns.length ≤ 63) : ∃ M, call pg 40 104 [.frz (ns.map Val.int)] [] = .ok (.bl true) M := by
  obtain ⟨M1, e1, h1⟩ := c_well 38 ns h
  rw [call_s pg 39 104 _ _ ⟨1, 3, b104⟩ rfl rfl]
  show ∃ M, back [] (exs (cfg 39) b104 [some (.frz (ns.map Val.int)), none, none] []) = _
  rw [b104_eq]
  rw [seq_nx (σ1 := [some (.frz (ns.map Val.int)), some (.ref 2), none]) (M1 := M1) (set_sv (call_1x (x := .frz (ns.map Val.int)) rfl e1) rfl)]
  have pb : plain 2 bareT := ⟨by simp, fun x hx => by
    have : x = .int 0 ∨ x = .tup [] := by simpa [bareT] using hx
    rcases this with rfl | rfl
    · trivial
    · exact ⟨by simp, fun y hy => by cases hy⟩⟩
  have db : inD 4 M1 bareT := ⟨trivial, fun xs e => by
    cases e
    refine ⟨by simp, fun y hy => ?_⟩
    have : y = .int 0 ∨ y = .tup [] := by simpa using hy
    rcases this with rfl | rfl
    · exact ⟨trivial, fun xs e => by cases e⟩
    · exact ⟨trivial, fun xs e => by cases e; exact ⟨by simp, fun y hy => by cases hy⟩⟩⟩
  obtain ⟨X, e2⟩ := c_table 29 bareT M1 db
  have hb : tableB bareT = true := by decide
  rw [hb] at e2
  have eb : ev (cfg 39) (.call 53 .nil) [some (.frz (ns.map Val.int)), some (.ref 2), none] M1 = .ok bareT M1 := by
    rw [s_call, ss_nil, Res.bind_ok]
    exact c_bare 38 M1
  have et : ev (cfg 39) (.tup (.cons (.cst (.int 0)) (.cons (.tup .nil) (.cons (.tup .nil) (.cons (.tup .nil) (.cons (.tup .nil) .nil)))))) [some (.frz (ns.map Val.int)), some (.ref 2), none] M1 = .ok bareT M1 := by
    have e0 : ev (cfg 39) (.tup .nil) [some (.frz (ns.map Val.int)), some (.ref 2), none] M1 = .ok (.tup []) M1 := tup_s (by rw [ss_nil]) (by simp)
    exact tup_s (disp_c (s_cst _) (disp_c e0 (disp_c e0 (disp_c e0 (disp_1 e0))))) (by simp)
  have cA : ev (cfg 39) lwA [some (.frz (ns.map Val.int)), some (.ref 2), none] M1 = .ok (.bl false) (M1 ++ X) := by
    have k1 : ev (cfg 39) (.not (.call 99 (.cons (.call 53 .nil) (.cons (.tup (.cons (.cst (.int 0)) (.cons (.tup .nil) (.cons (.tup .nil) (.cons (.tup .nil) (.cons (.tup .nil) .nil)))))) .nil)))) [some (.frz (ns.map Val.int)), some (.ref 2), none] M1 = .ok (.bl false) M1 :=
      not_s (k := true) ((call_2 (x := bareT) (y := bareT) (M1 := M1) (M2 := M1) eb et).trans (l_alike 2 37 _ _ pb))
    unfold lwA
    rw [or_f k1]
    refine cmp_s (x := .bl true) (y := .bl true) (M1 := M1 ++ X) (M2 := M1 ++ X) ?_ (s_cst _) rfl
    rw [call_1 eb]
    exact e2
  rw [seq_nx (σ1 := [some (.frz (ns.map Val.int)), some (.ref 2), none]) (M1 := M1 ++ X) (by rw [ite_f cA, xs_nil])]
  have h2 := h1.push X
  obtain ⟨q, M3, q0, q1, e3, h3⟩ := draw 36 3 (by decide) (by decide) h2
  obtain ⟨t, ht⟩ : ∃ t : Nat, (t : Int) = 1 + q := ⟨(1 + q).toNat, by omega⟩
  have ea : ev (cfg 39) lwN [some (.frz (ns.map Val.int)), some (.ref 2), none] (M1 ++ X) = .ok (.int (t : Nat)) M3 := by
    unfold lwN
    refine op_s (x := .int 1) (y := .int q) (M1 := M1 ++ X) (M2 := M3) (s_cst _) ((call_2 (x := .ref 2) (y := .int 3) (M1 := M1 ++ X) (M2 := M1 ++ X) (by rw [s_var]; rfl) (s_cst _)).trans e3) ?_
    rw [ht]; rfl
  obtain ⟨σ7, M7, e7, s2, Y, rfl, h7⟩ := x_rng (cf := cfg 39) (i := 2) (b := lwB) ea (by omega) (fun j σ M => ∃ s2 Y, σ = [some (.frz (ns.map Val.int)), some (.ref 2), s2] ∧ S0 (.lst (ns.map Val.int)) ns Y M) ⟨none, _, rfl, h3⟩ (fun j σ M hj ⟨s2, Y, eσ, hM⟩ => by
    subst eσ
    obtain ⟨Z, M', e, h'⟩ := one_run hM
    have c1 : ev (cfg 39) (.not (.call 103 (.cons (.var 1) .nil))) [some (.frz (ns.map Val.int)), some (.ref 2), some (.int (j : Nat))] M = .ok (.bl false) M' := not_s (k := true) (call_1x (x := .ref 2) rfl e)
    refine ⟨[some (.frz (ns.map Val.int)), some (.ref 2), some (.int (j : Nat))], M', ?_, some (.int (j : Nat)), Y ++ Z, rfl, h'⟩
    show exs (cfg 39) lwB [some (.frz (ns.map Val.int)), some (.ref 2), some (.int (j : Nat))] M = _
    unfold lwB
    rw [seq_nx (by rw [ite_f c1, xs_nil]), xs_nil])
  refine ⟨M7, ?_⟩
  rw [seq_nx e7, seq_ret (ret_s (s_cst (.bl true))), back_ret]
end K3
end K3HCS

section K3MathS
set_option Elab.async false
namespace K3
open Mi
def lv : Nat := 40
theorem math (ns : List Int) (h : ns.length ≤ 63) : ∃ M, call pg lv 104 [.frz (ns.map Val.int)] [] = .ok (.bl true) M := law_of ns h
end K3
end K3MathS

section K3FinS
set_option Elab.async false
set_option linter.all false
set_option maxRecDepth 100000
set_option maxHeartbeats 0
open PySem PySem.W PySem.Calls PyProof.Rows
theorem PySem.Challenge.cw_leasefiles_k03_tables_judged_and_read_holds : PySem.Challenge.rw_leasefiles_k03_tables_judged_and_read.Holds := by
  w_on; o_law
  refine HandSHeadRun.head_any (r := OpenLaw.row PySem.Challenge.rw_leasefiles_k03_tables_judged_and_read) (q := view (OpenLaw.row PySem.Challenge.rw_leasefiles_k03_tables_judged_and_read).prog [99]) (H := K3.hk) (ob := K3.ob) (M := 4000) (loose := K3.loose) (d := HandSHeadRun.topDef (OpenLaw.row PySem.Challenge.rw_leasefiles_k03_tables_judged_and_read).prog 99) (kwd := []) K3.ob_eq (by kernel_rfl) (fun s => by kernel_rfl) K3.run (by kernel_rfl) (by kernel_rfl) (by kernel_rfl) (by rfl) (by first | assumption | decide +kernel) (by decide +kernel) ⟨rfl, rfl, rfl, rfl, rfl, by decide +kernel⟩ ?hw ?hc
  case hw => w_witness2
  case hc =>
    refine Mi.walkM (l := PySem.Challenge.rw_leasefiles_k03_tables_judged_and_read) (n := 63) (k := K3.lv + 0) (x := "_law_script") rfl (by decide) (by kernel_rfl) ⟨rfl, by decide, by decide⟩ ?F
    intro w mg fa h Y G hmg0
    obtain ⟨K, KX, c⟩ := Y
    have hmg : mg ("law" : PySem.Str) = some (.ref fa) := by
      have e : (HandSHeadRun.topDef (OpenLaw.row PySem.Challenge.rw_leasefiles_k03_tables_judged_and_read).prog 99).name = ("law" : PySem.Str) := by kernel_rfl
      rw [← e]
      exact hmg0
    obtain ⟨fd, sp, z1, z2, z3⟩ := Mi.law_at (P := (PySem.Challenge.rw_leasefiles_k03_tables_judged_and_read).prog) (w := w) (p := K3.pi) (Pg := K3.pg) (l0 := 0) (n := K3.lv) (i := 104) (d := K3.d104) (x := "_law_script") (m := 63) rfl rfl rfl c KX G hmg K3.binds (Mi.comp_of K3.fns_eq K3.codes K3.same) (Mi.rep_of c) (fun _ _ _ e => Mi.reprP_ok e) rfl rfl K3.math
    exact ⟨K, fd, sp, KX, z1, z2, z3⟩
end K3FinS
