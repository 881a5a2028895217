import PyProof.Rows.All
import Wide.All
import OpenK.AllK
import Wide.FinOn
import HandS.ForMost
import HandS.Flow
import HandS.Deep
import HandS.TupAny
import HandS.ForExc
import HandS.IsInst
import HandS.SetFor
import HandS.SortInts
import HandS.Zip
import HandS.Strs
import HandS.WordsDict
import HandS.Conv
import HandS.More
import HandS.List
import HandS.Style
import HandS.Gcd
import HandS.Walk
import HandS.Comp
import HandS.Iter
import KE.GoesEnum
import KE.GoesMore
import HandS.DictComp
import HandS.ExcOwn
import HandS.Defaults
import OpenK.KMore
import KE.KExcInit
import KE.KExcIs
import HandS.ExcValue
import KE.KStateDown
import HandS.Ends
import HandS.Words
import HandS.WordsExc
import HandS.Head0
import HandS.Head1
import HandS.Head2
import HandS.HeadEnd
import HandS.HeadHook1
import HandS.HeadHook2
import PySem.Challenge.RW_whomheeds_k00_errors_made_by_hand
set_option Elab.async false
set_option linter.all false
set_option maxRecDepth 100000
namespace Py
open PySem PySem.Spec PyProof.Rows L2
/-! values, as plain data -/
inductive D where
  | non | bl (b : Bool) | int (i : Int) | str (s : Str)
  | tup (xs : List D) | lst (xs : List D)
  | rng (lo hi : Int)
  | fz (xs : List D)
  | dc (ks : List Int) (ds : List D)
  | er (nm at_ : Str) (ds : List D)
  deriving Inhabited
inductive R (α : Type) where
  | ok (a : α) | er (c : Nat) (p : Option D) | st
def R.bind {α β : Type} : R α → (α → R β) → R β
  | .ok a, f => f a
  | .er c p, _ => .er c p
  | .st, _ => .st
def noer {α : Type} : R α → R α
  | .ok a => .ok a
  | _ => .st
instance : Monad R where
  pure := R.ok
  bind := R.bind
abbrev Env := List (Option D)
inductive Bop where | add | sub | mul | fdiv | mod | pow deriving DecidableEq
inductive Cop where | eq | ne | lt | le | gt | ge | in_ | notin deriving DecidableEq
inductive Ty where | int | bool | str | list | tuple deriving DecidableEq
inductive F1 where | len | tuple | list | sorted | int | abs | all | any | sum | sset | lset | str | min1 | max1 deriving DecidableEq
inductive F2 where | min | max | gcd deriving DecidableEq
/-- what an error is asked for -/
inductive ET where | own (nm : Str) | le | ve | ki deriving DecidableEq
/-- what a name, or a pattern, takes -/
inductive Tg where | name (i : Nat) | tup (ts : List Tg)
inductive E where
  | k (d : D) | v (i : Nat) | mv (i : Nat) | p (i : Nat) | no
  | tup (es : List E) | lst (es : List E)
  | bin (o : Bop) (a b : E) | neg (a : E)
  | cmp (o : Cop) (a b : E) | isn (a : E) | notn (a : E)
  | chain (o o' : Cop) (a b c : E)
  | and (a b : E) | or (a b : E) | not (a : E) | ife (c a b : E)
  | ix (a i : E) | sl (a lo hi : E) | rev (a : E)
  | f1 (f : F1) (a : E) | f2 (f : F2) (a b : E)
  | isi (a : E) (ts : List Ty)
  | call (f : Nat) (mu : Bool) (as : List E)
  | callk (f : Nat) (mu : Bool) (ord : List Nat) (as : List E)
  | rg1 (a : E) | rg2 (a b : E) | zip (a b : E) | enum (a : E)
  | lc (e : E) (t : Tg) (src : E) (c : E)
  | lc2 (e : E) (t : Tg) (src : E) (c : E) (t' : Tg) (src' : E) (c' : E)
  | pop (i : Nat) (a : E)
  | idx (a x : E) | rgv (a : E)
  | dnew | dd (k v : E) | dcomp (k v : E) (t : Tg) (src : E) (c : E)
  | callb (f g : Nat) (as : List E)
  | mk0 (nm : Str) | mk1 (nm at_ : Str) (a : E)
  | att (ns : List Str) (at_ : Str) (a : E)
  | isE (ns : List (Str × Bool)) (a : E) (t : ET)
inductive Si where | str (s : Str) | num | isi (b : Bool)
inductive S where
  | set (i : Nat) (e : E) | own (i : Nat) (e : E)
  | par (is : List (Nat × Bool)) (es : List E)
  | unp (t : Tg) (e : E)
  | app (i : Nat) (e : E) | ext (i : Nat) (e : E) | put (i : Nat) (k e : E)
  | aug (o : Bop) (i : Nat) (e : E) | augp (o : Bop) (i : Nat) (k e : E)
  | ret (e : E) | ret0 | if_ (c : E) (a b : List S) | for_ (t : Tg) (src : E) (b : List S)
  | while_ (c : E) (b : List S) | brk | cont | pass | ex (e : E)
  | raise (c : Nat) (e : E)
  | del (i : Nat) (k : E)
  | rz (i t : Nat) (nm at_ : Str) (j : Nat)
  | try_ (b : List S) (cs : List Nat) (hs : List (Nat × Nat × Option Nat × List Si))
structure Def where
  name : Str
  np : Nat
  mu : Bool
  fr : Bool
  N : List Str
  own : List Nat
  body : List S
  /-- one that is not run but told: from how many calls deep, and its answer -/
  told : Option (Nat × (List D → R D)) := none
/-! dicts by ints -/
def dcGet : List Int → List D → Int → Option D
  | k :: ks, d :: ds, j => if k = j then some d else dcGet ks ds j
  | _, _, _ => none
def dcRep : List Int → List D → Int → D → List D
  | k :: ks, d :: ds, j, e => (if k = j then e else d) :: dcRep ks ds j e
  | _, ds, _, _ => ds
def dcPut (ks : List Int) (ds : List D) (j : Int) (e : D) : D := if j ∈ ks then .dc ks (dcRep ks ds j e) else .dc (ks ++ [j]) (ds ++ [e])
def dcDrop : List Int → List D → Int → List Int × List D
  | k :: ks, d :: ds, j => if k = j then dcDrop ks ds j else (k :: (dcDrop ks ds j).1, d :: (dcDrop ks ds j).2)
  | _, _, _ => ([], [])
/-- LIM: the most items of a list -/
abbrev LIM : Nat := 16777216
def truth : D → R Bool
  | .non => .ok false
  | .bl b => .ok b
  | .int i => .ok (i != 0)
  | .str s => if s.length ≤ LIM then .ok (s.length != 0) else .st
  | .tup xs => .ok (!xs.isEmpty)
  | .lst xs => .ok (!xs.isEmpty)
  | .dc ks _ => .ok (!ks.isEmpty)
  | _ => .st
mutual
def toPy : D → Option PyData
  | .non => some .none
  | .bl b => some (.bool b)
  | .int i => some (.int i)
  | .str s => some (.str s)
  | .tup xs => (toPys xs).map .tuple
  | .lst xs => (toPys xs).map .list
  | .rng _ _ => none
  | .fz _ => none
  | .dc _ _ => none
  | .er _ _ _ => none
def toPys : List D → Option (List PyData)
  | [] => some []
  | x :: xs => match toPy x, toPys xs with
    | some y, some ys => some (y :: ys)
    | _, _ => none
end
def deq (a b : D) : R Bool := match toPy a, toPy b with
  | some x, some y => if SeqAt.shaped x && SeqAt.shaped y then .ok (PyData.eqv x y) else .st
  | _, _ => .st
def isIn0 (x c : D) : R Bool := match toPy x, toPy c with
  | some d, some (.list ds) => if SeqAt.shaped d && SeqAt.shaped (.list ds) then .ok (ds.any fun z => PyData.eqv z d) else .st
  | some d, some (.tuple ds) => if SeqAt.shaped d && SeqAt.shaped (.tuple ds) then .ok (ds.any fun z => PyData.eqv z d) else .st
  | _, _ => .st
def isIn (x c : D) : R Bool := match c, x with
  | .dc ks ds, .int k => .ok (dcGet ks ds k).isSome
  | .dc _ _, _ => .st
  | c, x => isIn0 x c
def small (i : Int) : Bool := decide (-(2 ^ 64) < i) && decide (i < 2 ^ 64)
def wideOk (i j : Int) : Bool := decide (i.natAbs.log2 + j.natAbs.log2 + 2 ≤ 900000)
def arith (o : Bop) (i j : Int) : R D := match o with
  | .add => .ok (.int (i + j))
  | .sub => .ok (.int (i - j))
  | .mul => if small i || small j then .ok (.int (i * j)) else .st
  | .fdiv => if decide (0 < j) && decide (j < 1073741824) then .ok (.int (i / j)) else .st
  | .mod => if 0 < j then .ok (.int (i % j)) else .st
  | .pow => if small i && decide (0 ≤ j) && decide (j ≤ 1000000) then .ok (.int (i ^ j.toNat)) else .st
def binop (o : Bop) (a b : D) : R D := match o, a, b with
  | o, .int i, .int j => arith o i j
  | .add, .lst xs, .lst ys => if xs.length + ys.length ≤ LIM then .ok (.lst (xs ++ ys)) else .st
  | .add, .tup xs, .tup ys => if xs.length + ys.length ≤ LIM then .ok (.tup (xs ++ ys)) else .st
  | .mul, .lst xs, .int k => if decide (-(2 ^ 63) ≤ k) && decide (k < 2 ^ 63) && decide (xs.length * k.toNat ≤ LIM) then .ok (.lst (List.replicate k.toNat xs).flatten) else .st
  | _, _, _ => .st
def cmpop (o : Cop) (a b : D) : R Bool := match o, a, b with
  | .eq, a, b => deq a b
  | .ne, a, b => (deq a b).bind fun x => .ok (!x)
  | .lt, .int i, .int j => .ok (decide (i < j))
  | .le, .int i, .int j => .ok (decide (i ≤ j))
  | .gt, .int i, .int j => .ok (decide (j < i))
  | .ge, .int i, .int j => .ok (decide (j ≤ i))
  | .in_, a, b => isIn a b
  | .notin, a, b => (isIn a b).bind fun x => .ok (!x)
  | _, _, _ => .st
def ixD (a i : D) : R D := match a, i with
  | .lst xs, .int k => match atI xs k with
    | some d => .ok d
    | none => .st
  | .tup xs, .int k => match atI xs k with
    | some d => .ok d
    | none => .st
  | .dc ks ds, .int k => match dcGet ks ds k with
    | some d => .ok d
    | none => .st
  | _, _ => .st
def cutD (xs : List D) (lo hi : Option Int) : List D := (xs.drop (HT.sIx xs.length 0 lo)).take (HT.sIx xs.length xs.length hi - HT.sIx xs.length 0 lo)
def slD (a : D) (lo hi : Option Int) : R D := match a with
  | .lst xs => .ok (.lst (cutD xs lo hi))
  | .fz xs => .ok (.lst (cutD xs lo hi))
  | .tup xs => .ok (.tup (cutD xs lo hi))
  | _ => .st
def tyOf : D → Option Ty
  | .bl _ => some .bool
  | .int _ => some .int
  | .str _ => some .str
  | .tup _ => some .tuple
  | .lst _ => some .list
  | _ => none
def isTy (d : D) (t : Ty) : Bool := match tyOf d, t with
  | some .bool, .int => true
  | some x, y => x == y
  | none, _ => false
def isNonD : D → Bool
  | .non => true
  | _ => false
def noneOrTy : D → Bool
  | .non => true
  | d => (tyOf d).isSome
abbrev Opd := D ⊕ Nat
def rd (o : Opd) (η : Env) : R D := match o with
  | .inl d => .ok d
  | .inr i => match η[i]? with
    | some (some d) => .ok d
    | _ => .st
def rds : List Opd → Env → R (List D)
  | [], _ => .ok []
  | o :: os, η => (rd o η).bind fun d => (rds os η).bind fun ds => .ok (d :: ds)
def flat : D → Bool
  | .non => true
  | .bl _ => true
  | .int _ => true
  | .str _ => true
  | _ => false
def places : List Opd → List Nat
  | [] => []
  | .inl _ :: os => places os
  | .inr i :: os => i :: places os
def killE (η : Env) : List Nat → Env
  | [] => η
  | i :: is => (killE η is).set i none
def backE (η η0 : Env) : List Nat → Env
  | [] => η
  | i :: is => (backE η η0 is).set i (η0[i]?).join
def dropP (d : D) (ps : List Nat) (η : Env) : Env := if flat d then η else killE η ps
def after (mu : Bool) (os : List Opd) (d out : D) (η : Env) : R Env := match mu, os with
  | true, .inr i :: os' => if i ∈ places os' then .st else .ok ((killE η (places os')).set i (some out))
  | true, _ => .st
  | false, os => .ok (dropP d (places os) η)
def intL (lo : Int) (n : Nat) : List D := (List.range n).map fun i => .int (lo + (i : Nat))
def boundOk (i : Int) : Bool := decide (-(2 ^ 62) ≤ i) && decide (i < 2 ^ 62)
def items : D → R (List D)
  | .lst xs => .ok xs
  | .tup xs => .ok xs
  | .rng i j => if boundOk i && boundOk j then .ok (intL i (j - i).toNat) else .st
  | _ => .st
def rngItems (lo hi : D) : R (List D) := match lo, hi with
  | .int i, .int j => if boundOk i && boundOk j then .ok (intL i (j - i).toNat) else .st
  | _, _ => .st
def isort : List Int → List Int
  | [] => []
  | x :: xs => ins x (isort xs)
where ins (x : Int) : List Int → List Int
  | [] => [x]
  | y :: ys => if x ≤ y then x :: y :: ys else y :: ins x ys
def intsOf : List D → Option (List Int)
  | [] => some []
  | .int i :: xs => (intsOf xs).map (i :: ·)
  | _ :: _ => none
def blsOf : List D → Option (List Bool)
  | [] => some []
  | .bl b :: xs => (blsOf xs).map (b :: ·)
  | _ :: _ => none
def uniq : List Int → List Int
  | x :: y :: xs => if x = y then uniq (y :: xs) else x :: uniq (y :: xs)
  | xs => xs
def seqOf : D → Option (List D)
  | .lst xs => some xs
  | .tup xs => some xs
  | _ => none
def minI (n : Int) : List Int → Int
  | [] => n
  | x :: xs => minI (if x < n then x else n) xs
def maxI (n : Int) : List Int → Int
  | [] => n
  | x :: xs => maxI (if n < x then x else n) xs
def f1D (f : F1) (d : D) : R D := match f, d with
  | .len, .lst xs => .ok (.int xs.length)
  | .len, .tup xs => .ok (.int xs.length)
  | .len, .dc ks _ => .ok (.int ks.length)
  | .tuple, .lst xs => .ok (.tup xs)
  | .tuple, .tup xs => .ok (.tup xs)
  | .list, .lst xs => .ok (.lst xs)
  | .list, .tup xs => .ok (.lst xs)
  | .list, .dc ks _ => .ok (.lst (ks.map .int))
  | .sorted, .lst xs => match intsOf xs with
    | some ns => .ok (.lst ((isort ns).map .int))
    | none => .st
  | .sorted, .dc ks _ => if ks.length < 64 then .ok (.lst ((isort ks).map .int)) else .st
  | .sset, .tup xs => match intsOf xs with
    | some ns => if ns.length < 64 then .ok (.lst ((uniq (isort ns)).map .int)) else .st
    | none => .st
  | .lset, .tup xs => match intsOf xs with
    | some ns => if ns.length < 64 then .ok (.int (uniq (isort ns)).length) else .st
    | none => .st
  | .int, .int i => .ok (.int i)
  | .int, .bl b => .ok (.int (if b then 1 else 0))
  | .abs, .int i => .ok (.int (if i < 0 then -i else i))
  | .all, .lst xs => match blsOf xs with
    | some bs => .ok (.bl (bs.all id))
    | none => .st
  | .any, .lst xs => match blsOf xs with
    | some bs => .ok (.bl (bs.any id))
    | none => .st
  | .sum, .lst xs => match intsOf xs with
    | some ns => .ok (.int ns.sum)
    | none => .st
  | .str, .int i => if i.natAbs.log2 < 1920 then .ok (.str (toString i)) else .st
  | .min1, .lst xs => match intsOf xs with
    | some (n :: ns) => .ok (.int (minI n ns))
    | _ => .st
  | .max1, .lst xs => match intsOf xs with
    | some (n :: ns) => .ok (.int (maxI n ns))
    | _ => .st
  | _, _ => .st
def f2D (f : F2) (a b : D) : R D := match f, a, b with
  | .min, .int i, .int j => .ok (.int (if j < i then j else i))
  | .max, .int i, .int j => .ok (.int (if j > i then j else i))
  | .gcd, .int i, .int j => .ok (.int (Int.gcd i j))
  | _, _, _ => .st
mutual
def bindT : Tg → D → Env → R Env
  | .name i, d, η => .ok (η.set i (some d))
  | .tup ts, .tup xs, η => bindTs ts xs η
  | .tup _, _, _ => .st
def bindTs : List Tg → List D → Env → R Env
  | [], [], η => .ok η
  | t :: ts, x :: xs, η => (bindT t x η).bind fun η1 => bindTs ts xs η1
  | _, _, _ => .st
end
mutual
def tgSlots : Tg → List Nat
  | .name i => [i]
  | .tup ts => tgsSlots ts
def tgsSlots : List Tg → List Nat
  | [] => []
  | t :: ts => tgSlots t ++ tgsSlots ts
end
/-- what is walked is locked: its place empty -/
def lock : Opd → Env → Env
  | .inl _, η => η
  | .inr i, η => η.set i none
def unlock (o : Opd) (d : D) (η : Env) : R Env := match o with
  | .inl _ => .ok η
  | .inr i => match η[i]? with
    | some none => .ok (η.set i (some d))
    | _ => .st
def lcGo (T : Tg) (vs : List Nat) (cond body : Env → R (D × Env)) : List D → Env → R (List D × Env)
  | [], η => .ok ([], η)
  | x :: xs, η => (noer (bindT T x (killE η vs))).bind fun η1 => (cond η1).bind fun (b, η2) => (noer (truth b)).bind fun b =>
    if b then (body η2).bind fun (d, η3) => (lcGo T vs cond body xs η3).bind fun (ds, η4) => .ok (d :: ds, η4) else lcGo T vs cond body xs η2
def lc2Go (T : Tg) (vs : List Nat) (cond : Env → R (D × Env)) (T' : Tg) (vs' : List Nat) (src : Env → R (List D × Opd × D × Env)) (cond' body : Env → R (D × Env)) : List D → Env → R (List D × Env)
  | [], η => .ok ([], η)
  | x :: xs, η => (noer (bindT T x (killE η vs))).bind fun η1 => (cond η1).bind fun (b, η2) => (noer (truth b)).bind fun b =>
    if b then (src η2).bind fun (ds, o, d, η3) => (lcGo T' vs' cond' body ds η3).bind fun (zs, η4) => (noer (unlock o d η4)).bind fun η5 =>
      (lc2Go T vs cond T' vs' src cond' body xs η5).bind fun (ws, η6) => .ok (zs ++ ws, η6)
    else lc2Go T vs cond T' vs' src cond' body xs η2
def putK (l j d : D) : R D := match l, j with
  | .lst xs, .int j => match ixN xs.length j with
    | some n => .ok (.lst (xs.set n d))
    | none => .st
  | .dc ks ds, .int j => if ks.length < LIM then .ok (dcPut ks ds j d) else .st
  | _, _ => .st
def delK (l j : D) : R D := match l, j with
  | .dc ks ds, .int j => if (dcGet ks ds j).isSome then .ok (.dc (dcDrop ks ds j).1 (dcDrop ks ds j).2) else .st
  | _, _ => .st
def dcGo (T : Tg) (vs : List Nat) (cond key body : Env → R (D × Env)) : List D → List Int → List D → Env → R ((List Int × List D) × Env)
  | [], ks, zs, η => .ok ((ks, zs), η)
  | x :: xs, ks, zs, η => (noer (bindT T x (killE η vs))).bind fun η1 => (cond η1).bind fun (b, η2) => (noer (truth b)).bind fun b =>
    if b then (key η2).bind fun (k, η3) => (body η3).bind fun (d, η4) => (noer (putK (.dc ks zs) k d)).bind fun
      | .dc ks' zs' => dcGo T vs cond key body xs ks' zs' η4
      | _ => .st
    else dcGo T vs cond key body xs ks zs η2
abbrev CF := Nat → List D → R (D × D)
section
variable (cf : CF)
/-- an operand: a place stands for itself -/
def opd (a : E) (r : Env → R (D × Env)) (η : Env) : R (Opd × Env) := match a with
  | .p i => match η[i]? with
    | some (some _) => .ok (.inr i, η)
    | _ => .st
  | _ => (r η).bind fun (d, η') => .ok (.inl d, η')
def lstD : D → R D
  | .lst xs => .ok (.lst xs)
  | _ => .st
theorem lstD_ok {r : R D} {d : D} (h : r.bind lstD = .ok d) : r = .ok d ∧ ∃ xs, d = .lst xs := by
  cases r with
  | ok a => cases a <;> first | (cases h; exact ⟨rfl, _, rfl⟩) | cases h
  | er c p => cases h
  | st => cases h
def dInt : D → R Int
  | .int i => .ok i
  | _ => .st
/-- a part of a slice -/
def part (a : E) (r : Env → R (D × Env)) (η : Env) : R (Option Int × Env) := match a with
  | .no => .ok (none, η)
  | _ => (r η).bind fun (d, η') => (noer (dInt d)).bind fun i => .ok (some i, η')
/-- the first place of a whole number -/
def seqK : D → R Unit
  | .lst _ => .ok ()
  | _ => .st
def firstI (k : Int) : List Int → Option Nat
  | [] => none
  | n :: ns => if n = k then some 0 else (firstI k ns).map (· + 1)
def idxD (d y : D) : R D := match d, y with
  | .lst xs, .int k => match intsOf xs with
    | some ns => match firstI k ns with
      | some j => .ok (.int j)
      | none => .st
    | none => .st
  | _, _ => .st
def popD (xs : List D) (o : Option Int) : R (D × List D) := match o with
  | none => match xs.getLast? with
    | some d => .ok (d, xs.dropLast)
    | none => .st
  | some i => match seqIndex? i xs.length with
    | some k => match xs[k]? with
      | some d => if boundOk i then .ok (d, xs.eraseIdx k) else .st
      | none => .st
    | none => .st
def popK (d : D) (o : Option Int) : R (D × List D) := match d with
  | .lst xs => popD xs o
  | _ => .st
def revD : D → R D
  | .tup xs => .ok (.tup xs.reverse)
  | .lst xs => .ok (.lst xs.reverse)
  | _ => .st
def pairs (xs ys : List D) : List D := (xs.zip ys).map fun p => .tup [p.1, p.2]
def zipD : D → D → R (List D)
  | .lst xs, .lst ys => .ok (pairs xs ys)
  | .tup xs, .tup ys => .ok (pairs xs ys)
  | _, _ => .st
def enumD : D → R (List D)
  | .lst xs => .ok (pairs (intL 0 xs.length) xs)
  | .tup xs => .ok (pairs (intL 0 xs.length) xs)
  | _ => .st
def attD (ns : List Str) (at_ : Str) : D → R D
  | .er nm a [x] => if nm ∈ ns ∧ a = at_ then .ok x else .st
  | _ => .st
def isED (ns : List (Str × Bool)) (t : ET) : D → R Bool
  | .er nm _ _ => match ns.lookup nm with
    | some le => .ok (match t with
      | .own n => decide (nm = n)
      | .le => le
      | .ve => !le
      | .ki => false)
    | none => .st
  | _ => .st
/-- what is walked: the items, the operand that is locked and what it holds -/
def srcK (q : E) (r : Env → R (D × Env)) (η : Env) : R (List D × Opd × D × Env) := match q with
  | .rg1 _ => (r η).bind fun (d, η1) => (noer (items d)).bind fun ds => .ok (ds, .inl .non, .non, η1)
  | .rg2 _ _ => (r η).bind fun (d, η1) => (noer (items d)).bind fun ds => .ok (ds, .inl .non, .non, η1)
  | .zip _ _ => (r η).bind fun (d, η1) => (noer (items d)).bind fun ds => .ok (ds, .inl .non, .non, η1)
  | .enum _ => (r η).bind fun (d, η1) => (noer (items d)).bind fun ds => .ok (ds, .inl .non, .non, η1)
  | .k _ => .st
  | a => (opd a r η).bind fun (x, η1) => (noer (rd x η1)).bind fun d => (noer (items d)).bind fun ds => .ok (ds, x, d, lock x η1)
mutual
def ev : E → Env → R (D × Env)
  | .k d, η => .ok (d, η)
  | .v i, η => match η[i]? with
    | some (some d) => .ok (d, η)
    | _ => .st
  | .mv i, η => match η[i]? with
    | some (some d) => .ok (d, η.set i none)
    | _ => .st
  | .p _, _ => .st
  | .no, _ => .st
  | .tup es, η => (evs es η).bind fun (os, η') => (noer (rds os η')).bind fun ds => if (places os).isEmpty then .ok (.tup ds, η') else .st
  | .lst es, η => (evs es η).bind fun (os, η') => (noer (rds os η')).bind fun ds => if (places os).isEmpty then .ok (.lst ds, η') else .st
  | .bin o a b, η => (opd a (ev a) η).bind fun (x, η1) => (opd b (ev b) η1).bind fun (y, η2) => (noer (rd x η2)).bind fun dx => (noer (rd y η2)).bind fun dy => (noer (binop o dx dy)).bind fun d => .ok (d, η2)
  | .neg a, η => (ev a η).bind fun (d, η1) => (noer (dInt d)).bind fun i => .ok (.int (-i), η1)
  | .cmp o a b, η => (opd a (ev a) η).bind fun (x, η1) => (opd b (ev b) η1).bind fun (y, η2) => (noer (rd x η2)).bind fun dx => (noer (rd y η2)).bind fun dy => (noer (cmpop o dx dy)).bind fun d => .ok (.bl d, η2)
  | .isn a, η => (opd a (ev a) η).bind fun (x, η1) => (noer (rd x η1)).bind fun d => .ok (.bl (isNonD d), η1)
  | .notn a, η => (opd a (ev a) η).bind fun (x, η1) => (noer (rd x η1)).bind fun d => .ok (.bl (!isNonD d), η1)
  | .chain o o' a b c, η => (ev a η).bind fun (x, η1) => (ev b η1).bind fun (y, η2) => (noer (cmpop o x y)).bind fun k =>
    if k then (ev c η2).bind fun (z, η3) => (noer (cmpop o' y z)).bind fun k' => .ok (.bl k', η3) else .ok (.bl false, η2)
  | .and a b, η => (ev a η).bind fun (d, η1) => (noer (truth d)).bind fun k => if k then ev b η1 else .ok (d, η1)
  | .or a b, η => (ev a η).bind fun (d, η1) => (noer (truth d)).bind fun k => if k then .ok (d, η1) else ev b η1
  | .not a, η => (opd a (ev a) η).bind fun (x, η1) => (noer (rd x η1)).bind fun d => (noer (truth d)).bind fun k => .ok (.bl (!k), η1)
  | .ife c a b, η => (opd c (ev c) η).bind fun (x, η1) => (noer (rd x η1)).bind fun d => (noer (truth d)).bind fun k => if k then ev a η1 else ev b η1
  | .ix a i, η => (opd a (ev a) η).bind fun (x, η1) => (ev i η1).bind fun (y, η2) => (noer (rd x η2)).bind fun d => (noer (ixD d y)).bind fun z => .ok (z, η2)
  | .sl a lo hi, η => (opd a (ev a) η).bind fun (x, η1) => (part lo (ev lo) η1).bind fun (l, η2) => (part hi (ev hi) η2).bind fun (h, η3) => (noer (rd x η3)).bind fun d => (noer (slD d l h)).bind fun z => .ok (z, η3)
  | .rev a, η => (opd a (ev a) η).bind fun (x, η1) => (noer (rd x η1)).bind fun d => (noer (revD d)).bind fun z => .ok (z, η1)
  | .f1 f (.rg1 a), η => (ev a η).bind fun (n, η1) => (noer (rngItems (.int 0) n)).bind fun ds => if ds.length ≤ LIM then (noer (f1D f (.lst ds))).bind fun z => .ok (z, η1) else .st
  | .f1 f a, η => (opd a (ev a) η).bind fun (x, η1) => (noer (rd x η1)).bind fun d => (noer (f1D f d)).bind fun z => .ok (z, η1)
  | .f2 f a b, η => (ev a η).bind fun (x, η1) => (ev b η1).bind fun (y, η2) => (noer (f2D f x y)).bind fun z => .ok (z, η2)
  | .isi a ts, η => (opd a (ev a) η).bind fun (x, η1) => (noer (rd x η1)).bind fun d => if noneOrTy d then .ok (.bl (ts.any (isTy d)), η1) else .st
  | .call f mu as, η => (evs as η).bind fun (os, η1) => (noer (rds os η1)).bind fun ds => (cf f ds).bind fun (d, out) => (noer (after mu os d out η1)).bind fun η2 => .ok (d, η2)
  | .callk f mu ord as, η => (evs as η).bind fun (os, η1) => (noer (rds os η1)).bind fun ds => (cf f (ord.map fun j => ds.getD j .non)).bind fun (d, _) => if mu then .st else .ok (d, dropP d (places os) η1)
  | .rg1 a, η => (ev a η).bind fun (n, η1) => (noer (rngItems (.int 0) n)).bind fun ds => .ok (.lst ds, η1)
  | .rg2 a b, η => (ev a η).bind fun (m, η1) => (ev b η1).bind fun (n, η2) => (noer (rngItems m n)).bind fun ds => .ok (.lst ds, η2)
  | .zip a b, η => (ev a η).bind fun (x, η1) => (ev b η1).bind fun (y, η2) => (noer (zipD x y)).bind fun ds => .ok (.lst ds, η2)
  | .enum a, η => (ev a η).bind fun (x, η1) => (noer (enumD x)).bind fun ds => .ok (.lst ds, η1)
  | .lc e t src c, η => (srcK src (ev src) η).bind fun (ds, o, d, η1) => (noer (lcGo t (tgSlots t) (ev c) (ev e) ds η1)).bind fun (zs, η2) => (noer (unlock o d (backE η2 η1 (tgSlots t)))).bind fun η3 => if zs.length ≤ LIM then .ok (.lst zs, η3) else .st
  | .lc2 e t src c t' src' c', η => (srcK src (ev src) η).bind fun (ds, o, d, η1) => (noer (lc2Go t (tgSlots t ++ tgSlots t') (ev c) t' (tgSlots t') (srcK src' (ev src')) (ev c') (ev e) ds η1)).bind fun (zs, η2) =>
    (noer (unlock o d (backE η2 η1 (tgSlots t ++ tgSlots t')))).bind fun η3 => if zs.length ≤ LIM then .ok (.lst zs, η3) else .st
  | .callb f g as, η => (evs as η).bind fun (os, η1) => (noer (rds os η1)).bind fun ds => (cf g ds).bind fun (b, _) => (cf f [b]).bind fun (d, _) => .ok (d, dropP b (places os) η1)
  | .idx a x, η => (ev a η).bind fun (d, η1) => (noer (seqK d)).bind fun _ => (ev x η1).bind fun (y, η2) => (noer (idxD d y)).bind fun z => .ok (z, η2)
  | .rgv a, η => (ev a η).bind fun (d, η1) => (noer (dInt d)).bind fun j => .ok (.rng 0 j, η1)
  | .dnew, η => .ok (.dc [] [], η)
  | .dd a b, η => (ev a η).bind fun (x, η1) => (ev b η1).bind fun (y, η2) => (noer (dInt x)).bind fun k => .ok (.dc [k] [y], η2)
  | .dcomp a b t src c, η => (srcK src (ev src) η).bind fun (ds, o, d, η1) => (noer (dcGo t (tgSlots t) (ev c) (ev a) (ev b) ds [] [] η1)).bind fun ((ks, zs), η2) => (noer (unlock o d (backE η2 η1 (tgSlots t)))).bind fun η3 => .ok (.dc ks zs, η3)
  | .mk0 nm, η => .ok (.er nm (Str.ofString "") [], η)
  | .mk1 nm at_ a, η => (ev a η).bind fun (d, η1) => .ok (.er nm at_ [d], η1)
  | .att ns at_ a, η => (ev a η).bind fun (d, η1) => (noer (attD ns at_ d)).bind fun z => .ok (z, η1)
  | .isE ns a t, η => (ev a η).bind fun (d, η1) => (noer (isED ns t d)).bind fun b => .ok (.bl b, η1)
  | .pop i a, η => (noer ((rd (.inr i) η).bind lstD)).bind fun _ => (part a (ev a) η).bind fun (o, η1) => (noer (rd (.inr i) η1)).bind fun d => (noer (popK d o)).bind fun (z, ys) => .ok (z, η1.set i (some (.lst ys)))
def evs : List E → Env → R (List Opd × Env)
  | [], η => .ok ([], η)
  | a :: as, η => (opd a (ev a) η).bind fun (x, η1) => (evs as η1).bind fun (os, η2) => .ok (x :: os, η2)
end
end
section
variable (cf : CF)
def evSrc (q : E) (η : Env) : R (List D × Opd × D × Env) := srcK q (ev cf q) η
theorem bind_lst {r : R (List D)} {η : Env} : (((noer r).bind fun ds => R.ok (D.lst ds, η)).bind fun (x : D × Env) => (noer (items x.1)).bind fun ds => R.ok (ds, (Sum.inl .non : Opd), D.non, x.2)) = (noer r).bind fun ds => R.ok (ds, (Sum.inl .non : Opd), D.non, η) := by cases r <;> rfl
theorem bind_as {α β γ : Type} {r : R α} {f : α → R β} {g : β → R γ} : (r.bind f).bind g = r.bind fun a => (f a).bind g := by cases r <;> rfl
theorem evSrc_rg1 {a : E} {η : Env} : evSrc cf (.rg1 a) η = (ev cf a η).bind fun (n, η1) => (noer (rngItems (.int 0) n)).bind fun ds => .ok (ds, .inl .non, .non, η1) := by
  show (ev cf (.rg1 a) η).bind _ = _
  have e : ∀ (r : R (List D)) (η : Env), ((noer r).bind fun ds => R.ok (D.lst ds, η)).bind (fun (x : D × Env) => (noer (items x.1)).bind fun ds => R.ok (ds, (Sum.inl .non : Opd), D.non, x.2)) = (noer r).bind fun ds => R.ok (ds, (Sum.inl .non : Opd), D.non, η) := fun r η => bind_lst
  simp only [ev]
  cases ev cf a η with
  | ok x => exact e _ _
  | er c p => rfl
  | st => rfl
theorem evSrc_rg2 {a b : E} {η : Env} : evSrc cf (.rg2 a b) η = (ev cf a η).bind fun (m, η1) => (ev cf b η1).bind fun (n, η2) => (noer (rngItems m n)).bind fun ds => .ok (ds, .inl .non, .non, η2) := by
  show (ev cf (.rg2 a b) η).bind _ = _
  have e : ∀ (r : R (List D)) (η : Env), ((noer r).bind fun ds => R.ok (D.lst ds, η)).bind (fun (x : D × Env) => (noer (items x.1)).bind fun ds => R.ok (ds, (Sum.inl .non : Opd), D.non, x.2)) = (noer r).bind fun ds => R.ok (ds, (Sum.inl .non : Opd), D.non, η) := fun r η => bind_lst
  simp only [ev]
  cases ev cf a η with
  | ok x =>
    show ((ev cf b x.2).bind _).bind _ = (ev cf b x.2).bind _
    cases ev cf b x.2 with
    | ok y => exact e _ _
    | er c p => rfl
    | st => rfl
  | er c p => rfl
  | st => rfl
theorem evSrc_zip {a b : E} {η : Env} : evSrc cf (.zip a b) η = (ev cf a η).bind fun (x, η1) => (ev cf b η1).bind fun (y, η2) => (noer (zipD x y)).bind fun ds => .ok (ds, .inl .non, .non, η2) := by
  show (ev cf (.zip a b) η).bind _ = _
  have e : ∀ (r : R (List D)) (η : Env), ((noer r).bind fun ds => R.ok (D.lst ds, η)).bind (fun (x : D × Env) => (noer (items x.1)).bind fun ds => R.ok (ds, (Sum.inl .non : Opd), D.non, x.2)) = (noer r).bind fun ds => R.ok (ds, (Sum.inl .non : Opd), D.non, η) := fun r η => bind_lst
  simp only [ev]
  cases ev cf a η with
  | ok x =>
    show ((ev cf b x.2).bind _).bind _ = (ev cf b x.2).bind _
    cases ev cf b x.2 with
    | ok y => exact e _ _
    | er c p => rfl
    | st => rfl
  | er c p => rfl
  | st => rfl
theorem evSrc_enum {a : E} {η : Env} : evSrc cf (.enum a) η = (ev cf a η).bind fun (x, η1) => (noer (enumD x)).bind fun ds => .ok (ds, .inl .non, .non, η1) := by
  show (ev cf (.enum a) η).bind _ = _
  have e : ∀ (r : R (List D)) (η : Env), ((noer r).bind fun ds => R.ok (D.lst ds, η)).bind (fun (x : D × Env) => (noer (items x.1)).bind fun ds => R.ok (ds, (Sum.inl .non : Opd), D.non, x.2)) = (noer r).bind fun ds => R.ok (ds, (Sum.inl .non : Opd), D.non, η) := fun r η => bind_lst
  simp only [ev]
  cases ev cf a η with
  | ok x => exact e _ _
  | er c p => rfl
  | st => rfl
theorem evSrc_k {d : D} {η : Env} : evSrc cf (.k d) η = .st := rfl
theorem evSrc_p {i : Nat} {η : Env} : evSrc cf (.p i) η = (opd (.p i) (ev cf (.p i)) η).bind fun (x, η1) => (noer (rd x η1)).bind fun d => (noer (items d)).bind fun ds => .ok (ds, x, d, lock x η1) := rfl
end
inductive Fl where
  | nx (η : Env) | rt (d : D) (η : Env) | bk (η : Env) | ct (η : Env)
section
variable (cf : CF)
def setAll : List (Nat × Bool) → List D → Env → R Env
  | [], [], η => .ok η
  | i :: is, d :: ds, η => setAll is ds (η.set i.1 (some d))
  | _, _, _ => .st
def evals : List E → Env → R (List D × Env)
  | [], η => .ok ([], η)
  | a :: as, η => (ev cf a η).bind fun (d, η1) => (evals as η1).bind fun (ds, η2) => .ok (d :: ds, η2)
def sufD (p : Option D) : List Si → R (List D)
  | [] => .ok []
  | .str s :: is => (noer (sufD p is)).bind fun ds => .ok (.str s :: ds)
  | .isi b :: is => (noer (sufD p is)).bind fun ds => .ok (.bl b :: ds)
  | .num :: is => match p with
    | some d => (noer (sufD p is)).bind fun ds => .ok (d :: ds)
    | none => .st
-- the places that a block may assign
mutual
def asgS : S → List Nat
  | .set i _ => [i]
  | .own i _ => [i]
  | .par is _ => is.map (·.1)
  | .unp t _ => tgSlots t
  | .rz i t _ _ _ => [i, t]
  | .aug _ i _ => [i]
  | .if_ _ a b => asgSs a ++ asgSs b
  | .for_ t _ b => tgSlots t ++ asgSs b
  | .while_ _ b => asgSs b
  | .try_ b _ hs => asgSs b ++ hs.flatMap fun h => h.2.1 :: h.2.2.1.toList
  | _ => []
def asgSs : List S → List Nat
  | [] => []
  | s :: ss => asgS s ++ asgSs ss
end
def handle (η : Env) (c : Nat) (p : Option D) : List (Nat × Nat × Option Nat × List Si) → R Fl
  | [] => .er c p
  | (c', x, t, is) :: hs => if c = c' then if x < η.length then (noer (sufD p is)).bind fun ds => match t with
      | some i => .ok (.nx ((η.set x none).set i (some (.lst ds))))
      | none => .ok (.rt (.lst ds) (η.set x none))
    else .st else handle η c p hs
def loopK (again : Env → R Fl) : Fl → R Fl
  | .nx η => again η
  | .ct η => again η
  | .bk η => .ok (.nx η)
  | .rt d η => .ok (.rt d η)
def endK (o : Opd) (d : D) : Fl → R Fl
  | .nx η => (noer (unlock o d η)).bind fun η3 => .ok (.nx η3)
  | f => .ok f
def forGo (T : Tg) (body : Env → R Fl) : List D → Env → R Fl
  | [], η => .ok (.nx η)
  | x :: xs, η => (noer (bindT T x η)).bind fun η1 => (body η1).bind fun f => loopK (forGo T body xs) f
def whileGo (c : Env → R (D × Env)) (body : Env → R Fl) : Nat → Env → R Fl
  | 0, _ => .st
  | n + 1, η => (c η).bind fun (d, η1) => (noer (truth d)).bind fun b => if b then (body η1).bind fun f => loopK (whileGo c body n) f else .ok (.nx η1)
abbrev WF : Nat := 1000000
/-- the value of a test -/
def evT (c : E) (η : Env) : R (D × Env) := (opd c (ev cf c) η).bind fun (x, η1) => (noer (rd x η1)).bind fun d => .ok (d, η1)
def asLst : D → R D
  | .lst xs => .ok (.lst xs)
  | .dc ks ds => .ok (.dc ks ds)
  | _ => .st
def appK (l d : D) : R D := match l with
  | .lst xs => if xs.length < LIM then .ok (.lst (xs ++ [d])) else .st
  | _ => .st
def extK (l d : D) : R D := match l, d with
  | .lst xs, .lst ys => if xs.length + ys.length ≤ LIM then .ok (.lst (xs ++ ys)) else .st
  | _, _ => .st
def augK (o : Bop) (x d : D) : R D := match x, d with
  | .int a, .int b => arith o a b
  | _, _ => .st
variable (own : List Nat)
mutual
def ex : S → Env → R Fl
  | .set i e, η => (ev cf e η).bind fun (d, η1) => .ok (.nx (η1.set i (some d)))
  | .own i e, η => (ev cf e η).bind fun (d, η1) => (noer (asLst d)).bind fun z => .ok (.nx (η1.set i (some z)))
  | .par is es, η => (evals cf es η).bind fun (ds, η1) => (noer (setAll is ds η1)).bind fun η2 => .ok (.nx η2)
  | .unp t e, η => (ev cf e η).bind fun (d, η1) => (noer (bindT t d η1)).bind fun η2 => .ok (.nx η2)
  | .app i e, η => (noer ((rd (.inr i) η).bind lstD)).bind fun _ => (ev cf e η).bind fun (d, η1) => (noer (rd (.inr i) η1)).bind fun l => (noer (appK l d)).bind fun z => .ok (.nx (η1.set i (some z)))
  | .ext i e, η => (noer ((rd (.inr i) η).bind lstD)).bind fun _ => (ev cf e η).bind fun (d, η1) => (noer (rd (.inr i) η1)).bind fun l => (noer (extK l d)).bind fun z => .ok (.nx (η1.set i (some z)))
  | .put i k e, η => (ev cf e η).bind fun (d, η1) => (noer (rd (.inr i) η1)).bind fun _ => (ev cf k η1).bind fun (j, η2) => (noer (rd (.inr i) η2)).bind fun l => (noer (putK l j d)).bind fun z => .ok (.nx (η2.set i (some z)))
  | .aug o i e, η => (noer (rd (.inr i) η)).bind fun x => (ev cf e η).bind fun (d, η1) => (noer (augK o x d)).bind fun z => .ok (.nx (η1.set i (some z)))
  | .augp o i k e, η => (noer (rd (.inr i) η)).bind fun _ => (ev cf k η).bind fun (j, η1) => (noer (rd (.inr i) η1)).bind fun l => (noer (ixD l j)).bind fun a => (ev cf e η1).bind fun (d, η2) => (noer (augK o a d)).bind fun z =>
    (noer (rd (.inr i) η2)).bind fun l2 => (noer (putK l2 j z)).bind fun m => .ok (.nx (η2.set i (some m)))
  | .ret e, η => (ev cf e η).bind fun (d, η1) => .ok (.rt d η1)
  | .ret0, η => .ok (.rt .non η)
  | .if_ c a b, η => (evT cf c η).bind fun (d, η1) => (noer (truth d)).bind fun k => if k then exs a η1 else exs b η1
  | .for_ t src b, η => (evSrc cf src η).bind fun (ds, o, d, η1) => (forGo t (exs b) ds η1).bind fun f => endK o d f
  | .while_ c b, η => whileGo (evT cf c) (exs b) WF η
  | .brk, η => .ok (.bk η)
  | .cont, η => .ok (.ct η)
  | .pass, η => .ok (.nx η)
  | .ex e, η => (ev cf e η).bind fun (_, η1) => .ok (.nx η1)
  | .del i k, η => (noer (rd (.inr i) η)).bind fun _ => (ev cf k η).bind fun (j, η1) => (noer (rd (.inr i) η1)).bind fun l => (noer (delK l j)).bind fun z => .ok (.nx (η1.set i (some z)))
  | .rz i t nm at_ j, η => (noer (rd (.inr j) η)).bind fun d => if i < η.length then .ok (.nx ((η.set i none).set t (some (.er nm at_ [d])))) else .st
  | .raise c .no, _ => .er c none
  | .raise c e, η => (ev cf e η).bind fun (d, _) => .er c (some d)
  | .try_ b cs hs, η => match exs b η with
    | .er c p => if c ∈ cs then handle (killE (killE η own) (asgSs b)) c p hs else .st
    | r => r
def exs : List S → Env → R Fl
  | [], η => .ok (.nx η)
  | s :: ss, η => (ex s η).bind fun f => match f with
    | .nx η1 => exs ss η1
    | f => .ok f
end
end
/-- the places at a def's entry -/
def startE (n : Nat) (ds : List D) : Env := ds.map some ++ List.replicate (n - ds.length) none
def outD (mu : Bool) (η : Env) : R D := if mu then (match η[0]? with
  | some (some d) => .ok d
  | _ => .st) else .ok .non
def runDef (cf : CF) (f : Def) (ds : List D) : R (D × D) := (exs cf f.own f.body (startE f.N.length ds)).bind fun r => match r with
  | .rt d η => (noer (outD f.mu η)).bind fun o => .ok (d, o)
  | .nx η => if f.fr = true then .st else (noer (outD f.mu η)).bind fun o => .ok (.non, o)
  | _ => .st
def runD (n : Nat) (cf : CF) (f : Def) (ds : List D) : R (D × D) := match f.told with
  | none => runDef cf f ds
  | some (k, g) => if k ≤ n then (g ds).bind fun d => .ok (d, .non) else .st
theorem runD_none {n : Nat} {cf : CF} {f : Def} {ds : List D} (h : f.told = none) : runD n cf f ds = runDef cf f ds := by
  unfold runD
  rw [h]
theorem runD_some {n k : Nat} {cf : CF} {f : Def} {ds : List D} {g : List D → R D} (h : f.told = some (k, g)) : runD n cf f ds = if k ≤ n then (g ds).bind fun d => .ok (d, .non) else .st := by
  unfold runD
  rw [h]
def callN (defs : List Def) : Nat → CF
  | 0, _, _ => .st
  | n + 1, f, ds => match defs[f]? with
    | some df => if ds.length = df.np then runD n (callN defs n) df ds else .st
    | none => .st
end Py
set_option Elab.async false
set_option linter.all false
set_option maxRecDepth 100000
set_option maxHeartbeats 1000000
namespace Py
open PySem PySem.Spec PyProof.Rows L2
theorem LIM_line : LIM = sizeLine := by rw [sizeLine_eq]
/-! ### canonical readings -/
section
variable (X : Cx)
def RE (e : Expr) : TE := fun σ H Q => ∀ (pins : List (Addr × Obj)) (s : Shared), Inv X pins σ H s → wpAny (model X.prog X.w) X.A (eval e X.env) (EP X pins σ Q) X.xe s
def RT (e : Expr) : TT := fun σ H Q => ∀ (pins : List (Addr × Obj)) (s : Shared), Inv X pins σ H s → wpAny (model X.prog X.w) X.A (isTrue e X.env (eval e X.env)) (TP X pins σ Q) X.xe s
def RA (es : List Expr) : TA := fun σ H Q => ∀ (pos : Pos) (pins : List (Addr × Obj)) (s : Shared), Inv X pins σ H s → wpAny (model X.prog X.w) X.A (spliced (backTo pos (starEach es X.env))) (AP X pins σ Q) X.xe s
def RS (st : Stmt) : TS := fun W σ H => ∀ (pins : List (Addr × Obj)) (s : Shared), Inv X pins σ H s → wpAny (model X.prog X.w) X.A (exec st X.env) (SP X pins W) X.xe s
def RSs (st : List Stmt) : TS := fun W σ H => ∀ (pins : List (Addr × Obj)) (s : Shared), Inv X pins σ H s → wpAny (model X.prog X.w) X.A (execs st X.env) (SP X pins W) X.xe s
variable {X}
theorem RE.pe (e : Expr) : PE X e (RE X e) := ⟨fun pins s σ H Q I h => h pins s I⟩
theorem RT.pt (e : Expr) : PT X e (RT X e) := ⟨fun pins s σ H Q I h => h pins s I⟩
theorem RA.pa (es : List Expr) : PA X es (RA X es) := ⟨fun pos pins s σ H Q I h => h pos pins s I⟩
theorem RS.ps (st : Stmt) : PS X st (RS X st) := ⟨fun pins s σ H D I h => h pins s I⟩
theorem RSs.pss (st : List Stmt) : PSs X st (RSs X st) := ⟨fun pins s σ H D I h => h pins s I⟩
theorem RE.of {e : Expr} {t : TE} (h : PE X e t) {σ : L2.St} {H : Hp} {Q : VK} (q : t σ H Q) : RE X e σ H Q := fun pins s I => h.run pins s σ H Q I q
theorem RT.of {e : Expr} {t : TT} (h : PT X e t) {σ : L2.St} {H : Hp} {Q : Bool → Hp → Prop} (q : t σ H Q) : RT X e σ H Q := fun pins s I => h.run pins s σ H Q I q
theorem RA.of {e : List Expr} {t : TA} (h : PA X e t) {σ : L2.St} {H : Hp} {Q : List V → Hp → Prop} (q : t σ H Q) : RA X e σ H Q := fun pos pins s I => h.run pos pins s σ H Q I q
theorem RS.of {e : Stmt} {t : TS} (h : PS X e t) {σ : L2.St} {H : Hp} {W : Ends} (q : t W σ H) : RS X e W σ H := fun pins s I => h.run pins s σ H W I q
theorem RSs.of {e : List Stmt} {t : TS} (h : PSs X e t) {σ : L2.St} {H : Hp} {W : Ends} (q : t W σ H) : RSs X e W σ H := fun pins s I => h.run pins s σ H W I q
theorem RE.mono {e : Expr} {σ : L2.St} {H : Hp} {Q Q' : VK} (h : RE X e σ H Q) (k : ∀ v H', Q v H' → Q' v H') : RE X e σ H Q' := fun pins s I =>
  thn (h pins s I) fun _ _ ⟨v, H', I', r, q⟩ => ⟨v, H', I', r, k v H' q⟩
end
/-! ### results -/
def Sat {α : Type} (r : R α) (Q : α → Prop) (E : Nat → Option D → Prop) : Prop := match r with
  | .ok a => Q a
  | .er c p => E c p
  | .st => False
theorem Sat.bind {α β : Type} {r : R α} {f : α → R β} {Q : β → Prop} {E : Nat → Option D → Prop} : Sat (r.bind f) Q E ↔ Sat r (fun a => Sat (f a) Q E) E := by
  cases r <;> exact Iff.rfl
theorem Sat.mono {α : Type} {r : R α} {Q Q' : α → Prop} {E E' : Nat → Option D → Prop} (h : Sat r Q E) (k : ∀ a, Q a → Q' a) (ke : ∀ c p, E c p → E' c p) : Sat r Q' E' := by
  cases r with
  | ok a => exact k a h
  | er c p => exact ke c p h
  | st => exact h
/-! ### data in the heap -/
def kvz : List Int → List V → List (Key × V)
  | k :: ks, x :: xs => (.inl k, x) :: kvz ks xs
  | _, _ => []
/-- where an own class stands -/
def refOf : Option (Option Value) → Addr
  | some (some (.ref a)) => a
  | _ => 0
def clsK (K : PySem.W.Frag) (nm : Str) : Addr := refOf (PySem.W.nsIn K mainGlobals nm)
/-- an error, held as a value -/
def ErX (cls : Value) (d : Option Addr) (a : Addr) : HO := .ext fun h => ∃ oe, h.get? a = some oe ∧ (oe.cls = cls ∧ oe.dict = d) ∧ ∃ vs, oe.data = .fields vs
def ErH (H : Hp) (O : Addr → Prop) (C : Addr) (at_ : Str) (a : Addr) (xs : List V) : Prop := (xs = [] ∧ H a = some (ErX (.ref C) none a)) ∨
  ∃ dx x, xs = [x] ∧ H a = some (ErX (.ref C) (some dx) a) ∧ H dx = some (.xd [(at_, x)]) ∧ ¬ O dx
section
variable (K : PySem.W.Frag) (H : Hp) (O : Addr → Prop)
mutual
def Da : D → V → Prop
  | .non, v => v = .non
  | .bl b, v => v = .bl b
  | .int i, v => v = .int i
  | .str s, v => v = .str s
  | .tup ds, v => ∃ a xs, v = .ref a ∧ H a = some (.tup xs) ∧ ¬ O a ∧ xs.length ≤ LIM ∧ DaL ds xs
  | .lst ds, v => ∃ a xs, v = .ref a ∧ H a = some (.lst xs) ∧ ¬ O a ∧ xs.length ≤ LIM ∧ DaL ds xs
  | .rng lo hi, v => ∃ a, v = .ref a ∧ H a = some (.rng lo hi) ∧ ¬ O a
  | .fz ds, v => ∃ a xs, v = .ref a ∧ ((∃ o, H a = some (.frz o (.lst xs)) ∧ ¬ O a) ∨ ∀ H', SqL K H' a xs) ∧ xs.length ≤ LIM ∧ DaL ds xs
  | .dc ks ds, v => ∃ a xs, v = .ref a ∧ H a = some (.dK (kvz ks xs)) ∧ ¬ O a ∧ xs.length ≤ LIM ∧ ks.length = ds.length ∧ DaL ds xs
  | .er nm at_ ds, v => ∃ a xs, v = .ref a ∧ ¬ O a ∧ ErH H O (clsK K nm) at_ a xs ∧ DaL ds xs
def DaL : List D → List V → Prop
  | [], xs => xs = []
  | d :: ds, xs => ∃ v vs, xs = v :: vs ∧ Da d v ∧ DaL ds vs
end
end
section
variable {K : PySem.W.Frag} {H H' : Hp} {O O' : Addr → Prop}
mutual
theorem Da.to (h : ∀ a o, H a = some o → ¬ O a → H' a = some o ∧ ¬ O' a) : ∀ (d : D) (v : V), Da K H O d v → Da K H' O' d v
  | .non, v, q => by simp only [Da] at q ⊢; exact q
  | .bl b, v, q => by simp only [Da] at q ⊢; exact q
  | .int i, v, q => by simp only [Da] at q ⊢; exact q
  | .str s, v, q => by simp only [Da] at q ⊢; exact q
  | .tup ds, v, q => by
    simp only [Da] at q ⊢
    obtain ⟨a, xs, e, ha, ho, hl, hd⟩ := q
    exact ⟨a, xs, e, (h a _ ha ho).1, (h a _ ha ho).2, hl, DaL.to h ds xs hd⟩
  | .lst ds, v, q => by
    simp only [Da] at q ⊢
    obtain ⟨a, xs, e, ha, ho, hl, hd⟩ := q
    exact ⟨a, xs, e, (h a _ ha ho).1, (h a _ ha ho).2, hl, DaL.to h ds xs hd⟩
  | .rng lo hi, v, q => by
    simp only [Da] at q ⊢
    obtain ⟨a, e, ha, ho⟩ := q
    exact ⟨a, e, (h a _ ha ho).1, (h a _ ha ho).2⟩
  | .fz ds, v, q => by
    simp only [Da] at q ⊢
    obtain ⟨a, xs, e, hs, hl, hd⟩ := q
    refine ⟨a, xs, e, ?_, hl, DaL.to h ds xs hd⟩
    rcases hs with ⟨o, ha, ho⟩ | hs
    · exact .inl ⟨o, (h a _ ha ho).1, (h a _ ha ho).2⟩
    · exact .inr hs
  | .dc ks ds, v, q => by
    simp only [Da] at q ⊢
    obtain ⟨a, xs, e, ha, ho, hl, hk, hd⟩ := q
    exact ⟨a, xs, e, (h a _ ha ho).1, (h a _ ha ho).2, hl, hk, DaL.to h ds xs hd⟩
  | .er nm at_ ds, v, q => by
    simp only [Da] at q ⊢
    obtain ⟨a, xs, e, ho, he, hd⟩ := q
    rcases he with ⟨e1, e2⟩ | ⟨dx, x, e1, e2, e3, e4⟩
    · exact ⟨a, xs, e, (h a _ e2 ho).2, .inl ⟨e1, (h a _ e2 ho).1⟩, DaL.to h ds xs hd⟩
    · exact ⟨a, xs, e, (h a _ e2 ho).2, .inr ⟨dx, x, e1, (h a _ e2 ho).1, (h dx _ e3 e4).1, (h dx _ e3 e4).2⟩, DaL.to h ds xs hd⟩
theorem DaL.to (h : ∀ a o, H a = some o → ¬ O a → H' a = some o ∧ ¬ O' a) : ∀ (ds : List D) (xs : List V), DaL K H O ds xs → DaL K H' O' ds xs
  | [], xs, q => by simp only [DaL] at q ⊢; exact q
  | d :: ds, xs, q => by
    simp only [DaL] at q ⊢
    obtain ⟨v, vs, e, h1, h2⟩ := q
    exact ⟨v, vs, e, Da.to h d v h1, DaL.to h ds vs h2⟩
end
def Fr (O : Addr → Prop) (H H' : Hp) : Prop := ∀ a o, H a = some o → ¬ O a → H' a = some o
theorem Fr.refl : Fr O H H := fun _ _ h _ => h
theorem Fr.trans {O1 : Addr → Prop} {H1 : Hp} (a : Fr O H H1) (s : ∀ x, O1 x → O x) (b : Fr O1 H1 H') : Fr O H H' := fun x o h n => b x o (a x o h n) fun z => n (s x z)
theorem Da.fr {d : D} {v : V} (q : Da K H O d v) (f : Fr O H H') (s : ∀ a, O' a → O a) : Da K H' O' d v := Da.to (fun a o h n => ⟨f a o h n, fun z => n (s a z)⟩) d v q
theorem DaL.fr {ds : List D} {vs : List V} (q : DaL K H O ds vs) (f : Fr O H H') (s : ∀ a, O' a → O a) : DaL K H' O' ds vs := DaL.to (fun a o h n => ⟨f a o h n, fun z => n (s a z)⟩) ds vs q
/-- a new object -/
theorem Fr.new {p : Addr} {o : HO} (h : H p = none) : Fr O H (upd H p o) := fun a u e _ => by rw [upd_ne (ne_of_none e h)]; exact e
theorem DaL.length : ∀ {ds : List D} {xs : List V}, DaL K H O ds xs → xs.length = ds.length
  | [], xs, q => by simp only [DaL] at q; subst q; rfl
  | d :: ds, xs, q => by
    simp only [DaL] at q
    obtain ⟨v, vs, rfl, _, h2⟩ := q
    rw [List.length_cons, List.length_cons, DaL.length h2]
theorem DaL.get : ∀ {ds : List D} {xs : List V} {i : Nat} {d : D}, DaL K H O ds xs → ds[i]? = some d → ∃ v, xs[i]? = some v ∧ Da K H O d v
  | [], _, _, _, _, e => by simp at e
  | d :: ds, xs, 0, _, q, e => by
    simp only [DaL] at q
    obtain ⟨v, vs, rfl, h1, _⟩ := q
    simp at e; subst e
    exact ⟨v, rfl, h1⟩
  | d :: ds, xs, i + 1, _, q, e => by
    simp only [DaL] at q
    obtain ⟨v, vs, rfl, _, h2⟩ := q
    obtain ⟨u, h3, h4⟩ := DaL.get (i := i) h2 (by simpa using e)
    exact ⟨u, by simpa using h3, h4⟩
theorem DaL.cons {d : D} {v : V} {ds : List D} {vs : List V} (h : Da K H O d v) (t : DaL K H O ds vs) : DaL K H O (d :: ds) (v :: vs) := by
  simp only [DaL]; exact ⟨v, vs, rfl, h, t⟩
theorem DaL.nil : DaL K H O [] [] := by simp only [DaL]
theorem DaL.append : ∀ {ds es : List D} {xs ys : List V}, DaL K H O ds xs → DaL K H O es ys → DaL K H O (ds ++ es) (xs ++ ys)
  | [], es, xs, ys, q, r => by simp only [DaL] at q; subst q; exact r
  | d :: ds, es, xs, ys, q, r => by
    simp only [DaL] at q
    obtain ⟨v, vs, rfl, h1, h2⟩ := q
    exact DaL.cons h1 (DaL.append h2 r)
theorem DaL.drop : ∀ {ds : List D} {xs : List V} (n : Nat), DaL K H O ds xs → DaL K H O (ds.drop n) (xs.drop n)
  | ds, xs, 0, q => by simpa using q
  | [], xs, n + 1, q => by simp only [DaL] at q; subst q; simpa using (DaL.nil (K := K) (H := H) (O := O))
  | d :: ds, xs, n + 1, q => by
    simp only [DaL] at q
    obtain ⟨v, vs, rfl, _, h2⟩ := q
    simpa using DaL.drop n h2
theorem DaL.take : ∀ {ds : List D} {xs : List V} (n : Nat), DaL K H O ds xs → DaL K H O (ds.take n) (xs.take n)
  | ds, xs, 0, q => by simpa using (DaL.nil (K := K) (H := H) (O := O))
  | [], xs, n + 1, q => by simp only [DaL] at q; subst q; simpa using (DaL.nil (K := K) (H := H) (O := O))
  | d :: ds, xs, n + 1, q => by
    simp only [DaL] at q
    obtain ⟨v, vs, rfl, h1, h2⟩ := q
    simpa using DaL.cons h1 (DaL.take n h2)
theorem DaL.set : ∀ {ds : List D} {xs : List V} {d : D} {v : V} (n : Nat), DaL K H O ds xs → Da K H O d v → DaL K H O (ds.set n d) (xs.set n v)
  | [], xs, d, v, n, q, r => by simp only [DaL] at q; subst q; simpa using (DaL.nil (K := K) (H := H) (O := O))
  | d0 :: ds, xs, d, v, 0, q, r => by
    simp only [DaL] at q
    obtain ⟨u, vs, rfl, _, h2⟩ := q
    simpa using DaL.cons r h2
  | d0 :: ds, xs, d, v, n + 1, q, r => by
    simp only [DaL] at q
    obtain ⟨u, vs, rfl, h1, h2⟩ := q
    simpa using DaL.cons h1 (DaL.set n h2 r)
theorem DaL.erase : ∀ {ds : List D} {xs : List V} (n : Nat), DaL K H O ds xs → DaL K H O (ds.eraseIdx n) (xs.eraseIdx n)
  | [], xs, n, q => by simp only [DaL] at q; subst q; simpa using (DaL.nil (K := K) (H := H) (O := O))
  | d0 :: ds, xs, 0, q => by
    simp only [DaL] at q
    obtain ⟨u, vs, rfl, _, h2⟩ := q
    simpa using h2
  | d0 :: ds, xs, n + 1, q => by
    simp only [DaL] at q
    obtain ⟨u, vs, rfl, h1, h2⟩ := q
    simpa using DaL.cons h1 (DaL.erase n h2)
theorem DaL.reverse : ∀ {ds : List D} {xs : List V}, DaL K H O ds xs → DaL K H O ds.reverse xs.reverse
  | [], xs, q => by simp only [DaL] at q; subst q; simpa using (DaL.nil (K := K) (H := H) (O := O))
  | d :: ds, xs, q => by
    simp only [DaL] at q
    obtain ⟨v, vs, rfl, h1, h2⟩ := q
    simpa using DaL.append (DaL.reverse h2) (DaL.cons h1 DaL.nil)
theorem DaL.rep : ∀ {ds : List D} {xs : List V} (n : Nat), DaL K H O ds xs → DaL K H O (List.replicate n ds).flatten (List.replicate n xs).flatten
  | ds, xs, 0, q => by simpa using (DaL.nil (K := K) (H := H) (O := O))
  | ds, xs, n + 1, q => by
    simp only [List.replicate_succ, List.flatten_cons]
    exact DaL.append q (DaL.rep n q)
theorem Da.flat {d : D} {v : V} (f : flat d = true) (q : Da K H O d v) : ∀ H1 O1, Da K H1 O1 d v := fun H1 O1 => by
  cases d <;> first | (simp only [Da] at q ⊢; exact q) | cases f
end
section
variable {K : PySem.W.Frag} {H : Hp} {O : Addr → Prop}
theorem inl_ne {a b : Int} (h : a ≠ b) : ¬ (Sum.inl a : Key) = .inl b := fun z => h (Sum.inl.inj z)
theorem kvz_get : ∀ {ks : List Int} {ds : List D} {xs : List V} {j : Int} {d : D}, DaL K H O ds xs → dcGet ks ds j = some d → ∃ v, valV (kvz ks xs) (.inl j) = some v ∧ Da K H O d v
  | [], ds, xs, j, d, q, e => by simp [dcGet] at e
  | k :: ks, [], xs, j, d, q, e => by simp [dcGet] at e
  | k :: ks, d0 :: ds, xs, j, d, q, e => by
    simp only [DaL] at q
    obtain ⟨v, vs, rfl, h1, h2⟩ := q
    simp only [dcGet] at e
    by_cases c : k = j
    · rw [if_pos c] at e
      cases e
      exact ⟨v, valV_pos (p := ((Sum.inl k : Key), v)) (congrArg Sum.inl c), h1⟩
    · rw [if_neg c] at e
      obtain ⟨u, z1, z2⟩ := kvz_get h2 e
      exact ⟨u, (valV_neg (p := ((Sum.inl k : Key), v)) (inl_ne c)).trans z1, z2⟩
theorem kvz_some : ∀ {ks : List Int} {ds : List D} {xs : List V} {j : Int}, DaL K H O ds xs → (valV (kvz ks xs) (.inl j)).isSome = (dcGet ks ds j).isSome
  | [], ds, xs, j, q => rfl
  | k :: ks, [], xs, j, q => by simp only [DaL] at q; subst q; rfl
  | k :: ks, d0 :: ds, xs, j, q => by
    simp only [DaL] at q
    obtain ⟨v, vs, rfl, h1, h2⟩ := q
    simp only [dcGet]
    by_cases c : k = j
    · rw [if_pos c]
      show (valV (((Sum.inl k : Key), v) :: kvz ks vs) (.inl j)).isSome = _
      rw [valV_pos (p := ((Sum.inl k : Key), v)) (congrArg Sum.inl c)]; rfl
    · rw [if_neg c]
      show (valV (((Sum.inl k : Key), v) :: kvz ks vs) (.inl j)).isSome = _
      rw [valV_neg (p := ((Sum.inl k : Key), v)) (inl_ne c)]
      exact kvz_some h2
theorem kvz_len : ∀ {ks : List Int} {xs : List V}, ks.length = xs.length → (kvz ks xs).length = xs.length
  | [], [], _ => rfl
  | [], _ :: _, h => nomatch h
  | _ :: _, [], h => nomatch h
  | k :: ks, x :: xs, h => by
    show (kvz ks xs).length + 1 = xs.length + 1
    rw [kvz_len (by simpa using h)]
theorem kvz_fst : ∀ {ks : List Int} {xs : List V}, ks.length = xs.length → (kvz ks xs).map (fun kv => kv.1) = ks.map Sum.inl
  | [], [], _ => rfl
  | [], _ :: _, h => nomatch h
  | _ :: _, [], h => nomatch h
  | k :: ks, x :: xs, h => by
    show (Sum.inl k : Key) :: (kvz ks xs).map (fun kv => kv.1) = Sum.inl k :: ks.map Sum.inl
    rw [kvz_fst (by simpa using h)]
theorem kvz_keys : ∀ {ks : List Int} {xs : List V}, ks.length = xs.length → (kvz ks xs).map (fun kv => kV kv.1) = ks.map V.int
  | [], [], _ => rfl
  | [], _ :: _, h => nomatch h
  | _ :: _, [], h => nomatch h
  | k :: ks, x :: xs, h => by
    show V.int k :: (kvz ks xs).map (fun kv => kV kv.1) = V.int k :: ks.map V.int
    rw [kvz_keys (by simpa using h)]
def vRep : List Int → List V → Int → V → List V
  | k :: ks, x :: xs, j, e => (if k = j then e else x) :: vRep ks xs j e
  | _, xs, _, _ => xs
theorem vRep_len : ∀ {ks : List Int} {xs : List V} {j : Int} {e : V}, (vRep ks xs j e).length = xs.length
  | [], xs, j, e => rfl
  | _ :: _, [], j, e => rfl
  | k :: ks, x :: xs, j, e => by
    show (vRep ks xs j e).length + 1 = xs.length + 1
    rw [vRep_len]
theorem dcRep_len : ∀ {ks : List Int} {xs : List D} {j : Int} {e : D}, (dcRep ks xs j e).length = xs.length
  | [], xs, j, e => by cases xs <;> rfl
  | _ :: _, [], j, e => rfl
  | k :: ks, x :: xs, j, e => by
    show (dcRep ks xs j e).length + 1 = xs.length + 1
    rw [dcRep_len]
theorem DaL.repK : ∀ {ks : List Int} {ds : List D} {xs : List V} {j : Int} {d : D} {v : V}, DaL K H O ds xs → Da K H O d v → DaL K H O (dcRep ks ds j d) (vRep ks xs j v)
  | [], ds, xs, j, d, v, q, r => by cases ds <;> exact q
  | k :: ks, [], xs, j, d, v, q, r => by simp only [DaL] at q; subst q; exact DaL.nil
  | k :: ks, d0 :: ds, xs, j, d, v, q, r => by
    simp only [DaL] at q
    obtain ⟨u, vs, rfl, h1, h2⟩ := q
    by_cases c : k = j
    · simp only [dcRep, vRep, if_pos c]
      exact DaL.cons r (DaL.repK h2 r)
    · simp only [dcRep, vRep, if_neg c]
      exact DaL.cons h1 (DaL.repK h2 r)
theorem kvz_rep : ∀ {ks : List Int} {xs : List V} {j : Int} {v : V}, (kvz ks xs).map (fun kv => if kv.1 = (.inl j : Key) then (kv.1, v) else kv) = kvz ks (vRep ks xs j v)
  | [], xs, j, v => rfl
  | _ :: _, [], j, v => rfl
  | k :: ks, x :: xs, j, v => by
    show (if (.inl k : Key) = .inl j then _ else _) :: (kvz ks xs).map _ = (.inl k, if k = j then v else x) :: kvz ks (vRep ks xs j v)
    rw [kvz_rep]
    by_cases c : k = j
    · rw [if_pos (by rw [c]), if_pos c]
    · rw [if_neg (inl_ne c), if_neg c]
theorem kvz_any : ∀ {ks : List Int} {xs : List V} {j : Int}, ks.length = xs.length → ((kvz ks xs).any fun kv => decide (kv.1 = (.inl j : Key))) = decide (j ∈ ks)
  | [], [], j, _ => rfl
  | [], _ :: _, j, h => nomatch h
  | _ :: _, [], j, h => nomatch h
  | k :: ks, x :: xs, j, h => by
    show (decide ((.inl k : Key) = .inl j) || (kvz ks xs).any _) = _
    rw [kvz_any (by simpa using h)]
    by_cases c : k = j
    · subst c; simp
    · rw [decide_eq_false (inl_ne c), Bool.false_or]
      have : ¬ j = k := fun z => c z.symm
      simp [this]
theorem kvz_app : ∀ {ks : List Int} {xs : List V} {j : Int} {v : V}, ks.length = xs.length → kvz ks xs ++ [(.inl j, v)] = kvz (ks ++ [j]) (xs ++ [v])
  | [], [], j, v, _ => rfl
  | [], _ :: _, j, v, h => nomatch h
  | _ :: _, [], j, v, h => nomatch h
  | k :: ks, x :: xs, j, v, h => by
    show (.inl k, x) :: (kvz ks xs ++ _) = (.inl k, x) :: kvz (ks ++ [j]) (xs ++ [v])
    rw [kvz_app (by simpa using h)]
theorem kvz_drop : ∀ {ks : List Int} {ds : List D} {xs : List V} {j : Int}, ks.length = ds.length → DaL K H O ds xs → ∃ ys, dropK (kvz ks xs) (.inl j) = kvz (dcDrop ks ds j).1 ys ∧ DaL K H O (dcDrop ks ds j).2 ys ∧ ys.length ≤ xs.length ∧ (dcDrop ks ds j).1.length = (dcDrop ks ds j).2.length
  | [], [], xs, j, _, q => by simp only [DaL] at q; subst q; exact ⟨[], rfl, DaL.nil, Nat.le_refl _, rfl⟩
  | [], _ :: _, xs, j, h, q => nomatch h
  | _ :: _, [], xs, j, h, q => nomatch h
  | k :: ks, d0 :: ds, xs, j, h, q => by
    simp only [DaL] at q
    obtain ⟨u, vs, rfl, h1, h2⟩ := q
    obtain ⟨ys, z1, z2, z3, z4⟩ := kvz_drop (j := j) (show ks.length = ds.length by simpa using h) h2
    by_cases c : k = j
    · simp only [dcDrop, if_pos c]
      refine ⟨ys, ?_, z2, by simp; omega, z4⟩
      show List.filter _ (_ :: _) = _
      rw [List.filter_cons_of_neg (by simp [c])]
      exact z1
    · simp only [dcDrop, if_neg c]
      refine ⟨u :: ys, ?_, DaL.cons h1 z2, by simp; omega, by simp; omega⟩
      show List.filter _ (_ :: _) = _
      rw [List.filter_cons_of_pos (by simp [c])]
      exact congrArg _ z1
theorem kvz_put {ks : List Int} {ds : List D} {xs : List V} {j : Int} {d : D} {v : V} (hk : ks.length = ds.length) (q : DaL K H O ds xs) (r : Da K H O d v) : ∃ ks' ds' xs', dcPut ks ds j d = .dc ks' ds' ∧ L2.putK (kvz ks xs) (.inl j) v = kvz ks' xs' ∧ ks'.length = ds'.length ∧ DaL K H O ds' xs' ∧ xs'.length ≤ xs.length + 1 := by
  have l := q.length
  unfold dcPut L2.putK
  rw [kvz_any (by omega)]
  by_cases c : j ∈ ks
  · refine ⟨ks, dcRep ks ds j d, vRep ks xs j v, by rw [if_pos c], ?_, by rw [dcRep_len]; exact hk, q.repK r, by rw [vRep_len]; omega⟩
    rw [if_pos (by rw [decide_eq_true c])]
    exact kvz_rep
  · refine ⟨ks ++ [j], ds ++ [d], xs ++ [v], by rw [if_neg c], ?_, by simp [hk], q.append (DaL.cons r DaL.nil), by simp⟩
    rw [if_neg (by rw [decide_eq_false c]; exact Bool.false_ne_true)]
    exact kvz_app (by omega)
theorem DaL.ints : ∀ (ks : List Int), DaL K H O (ks.map D.int) (ks.map V.int)
  | [] => DaL.nil
  | k :: ks => DaL.cons (by simp only [Da]) (DaL.ints ks)
end
/-! ### a def's state: the places' values, what is its own -/
structure Base where
  H : Hp
  M : Addr → Prop
  O : Addr → Prop
  P : List Nat
  hP : ∀ i ∈ P, i = 0
  hO : ∀ a, O a → ∃ o, H a = some o
def Base.Nw (B : Base) (p : Addr) : Prop := B.H p = none ∨ B.M p
/-- the shape of what a place holds -/
def Sh (d : D) (ds : List D) (o : HO) (xs : List V) : Prop := (d = .lst ds ∧ o = .lst xs) ∨ ∃ ks, d = .dc ks ds ∧ ks.length = ds.length ∧ o = .dK (kvz ks xs)
theorem Sh.lst {ds : List D} {xs : List V} : Sh (.lst ds) ds (.lst xs) xs := .inl ⟨rfl, rfl⟩
theorem Sh.dc {ks : List Int} {ds : List D} {xs : List V} (h : ks.length = ds.length) : Sh (.dc ks ds) ds (.dK (kvz ks xs)) xs := .inr ⟨ks, rfl, h, rfl⟩
def Ob (K : PySem.W.Frag) (H : Hp) (O : Addr → Prop) (p : Addr) (d : D) : Prop := ∃ o xs ds, Sh d ds o xs ∧ H p = some o ∧ xs.length ≤ LIM ∧ DaL K H O ds xs
structure Rep (K : PySem.W.Frag) (own : List Nat) (B : Base) (T : List (Addr × D)) (O : Addr → Prop) (η : Env) (σ : L2.St) (H : Hp) : Prop where
  len : η.length = σ.length
  sh : ∀ i d, η[i]? = some (some d) → i ∉ own → ∃ v, σ[i]? = some (some v) ∧ Da K H O d v
  ow : ∀ i d, η[i]? = some (some d) → i ∈ own → ∃ p, σ[i]? = some (some (.ref p)) ∧ O p ∧ B.Nw p ∧ Ob K H O p d
  tm : ∀ p d, (p, d) ∈ T → O p ∧ B.Nw p ∧ Ob K H O p d
  ap : ∀ i j d e p, i ∈ own → j ∈ own → η[i]? = some (some d) → η[j]? = some (some e) → σ[i]? = some (some (.ref p)) → σ[j]? = some (some (.ref p)) → i = j
  apt : ∀ i d p e, i ∈ own → η[i]? = some (some d) → σ[i]? = some (some (.ref p)) → (p, e) ∉ T
  nb : ∀ i d p, i ∈ own → i ∉ B.P → η[i]? = some (some d) → σ[i]? = some (some (.ref p)) → ¬ B.O p
  nbT : ∀ p d, (p, d) ∈ T → ¬ B.O p
  ndt : (T.map (·.1)).Nodup
  base : ∀ a, B.O a → O a
  tr : ∀ a, O a → ∃ o, H a = some o
  fr : ∀ a o, B.H a = some o → ¬ B.M a → H a = some o
end Py
set_option Elab.async false
set_option linter.all false
set_option maxRecDepth 100000
set_option maxHeartbeats 1000000
namespace Py
open PySem PySem.Spec PyProof.Rows L2
section
variable {K : PySem.W.Frag} {own : List Nat} {B : Base} {T : List (Addr × D)} {O O' : Addr → Prop} {η : Env} {σ : L2.St} {H H' : Hp}
theorem Ob.to (h : ∀ a o, H a = some o → ¬ O a → H' a = some o ∧ ¬ O' a) {p : Addr} {d : D} (hp : H' p = H p) (q : Ob K H O p d) : Ob K H' O' p d := by
  obtain ⟨o, xs, ds, e, hx, hl, hd⟩ := q
  exact ⟨o, xs, ds, e, hp.trans hx, hl, DaL.to h ds xs hd⟩
/-- nothing that is there changes -/
theorem Rep.same (R : Rep K own B T O η σ H) (h : L2.Same H H') : Rep K own B T O η σ H' := by
  have f : ∀ a o, H a = some o → ¬ O a → H' a = some o ∧ ¬ O a := fun a o e n => ⟨h a o e, n⟩
  have ob : ∀ p d, Ob K H O p d → Ob K H' O p d := fun p d q => by
    obtain ⟨o, xs, ds, e, hx, hl, hd⟩ := q
    exact ⟨o, xs, ds, e, h _ _ hx, hl, DaL.to f ds xs hd⟩
  exact ⟨R.len, fun i d e n => let ⟨v, h1, h2⟩ := R.sh i d e n; ⟨v, h1, Da.to f d v h2⟩, fun i d e n => let ⟨p, h1, h2, h3, h4⟩ := R.ow i d e n; ⟨p, h1, h2, h3, ob p d h4⟩,
    fun p d e => let ⟨h2, h3, h4⟩ := R.tm p d e; ⟨h2, h3, ob p d h4⟩, R.ap, R.apt, R.nb, R.nbT, R.ndt, R.base, fun a q => let ⟨o, e⟩ := R.tr a q; ⟨o, h a o e⟩, fun a o e n => h a o (R.fr a o e n)⟩
theorem Same.new {p : Addr} {o : HO} (h : H p = none) : L2.Same H (upd H p o) := fun a u e => by rw [upd_ne (ne_of_none e h)]; exact e
theorem Same.fr (h : L2.Same H H') : Fr O H H' := fun a o e _ => h a o e
theorem Rep.notO (R : Rep K own B T O η σ H) {p : Addr} (h : H p = none) : ¬ O p := fun q => by
  obtain ⟨o, e⟩ := R.tr p q
  rw [h] at e; cases e
/-- a new list, a new tuple, as data -/
theorem Rep.newL (R : Rep K own B T O η σ H) {p : Addr} {xs : List V} {ds : List D} (h : H p = none) (hl : xs.length ≤ LIM) (hd : DaL K H O ds xs) : Da K (upd H p (.lst xs)) O (.lst ds) (.ref p) := by
  simp only [Da]
  exact ⟨p, xs, rfl, upd_same, R.notO h, hl, hd.fr (Fr.new h) fun _ z => z⟩
theorem Rep.newT (R : Rep K own B T O η σ H) {p : Addr} {xs : List V} {ds : List D} (h : H p = none) (hl : xs.length ≤ LIM) (hd : DaL K H O ds xs) : Da K (upd H p (.tup xs)) O (.tup ds) (.ref p) := by
  simp only [Da]
  exact ⟨p, xs, rfl, upd_same, R.notO h, hl, hd.fr (Fr.new h) fun _ z => z⟩
theorem Rep.newD (R : Rep K own B T O η σ H) {p : Addr} {ks : List Int} {xs : List V} {ds : List D} (h : H p = none) (hk : ks.length = ds.length) (hl : xs.length ≤ LIM) (hd : DaL K H O ds xs) : Da K (upd H p (.dK (kvz ks xs))) O (.dc ks ds) (.ref p) := by
  simp only [Da]
  exact ⟨p, xs, rfl, upd_same, R.notO h, hl, hk, hd.fr (Fr.new h) fun _ z => z⟩
theorem get_set_none {η : Env} {i j : Nat} {d : D} (h : (η.set i none)[j]? = some (some d)) : j ≠ i ∧ η[j]? = some (some d) := by
  by_cases e : j = i
  · subst e
    by_cases hl : j < η.length
    · rw [List.getElem?_set_self hl] at h; cases h
    · rw [List.getElem?_eq_none (by rw [List.length_set]; omega)] at h; cases h
  · rw [List.getElem?_set_ne (Ne.symm e)] at h
    exact ⟨e, h⟩
/-- an own place is given away -/
theorem Rep.move (R : Rep K own B T O η σ H) {i : Nat} {d : D} (e : η[i]? = some (some d)) (hi : i ∈ own) (hP : i ∉ B.P) :
    ∃ p O', σ[i]? = some (some (.ref p)) ∧ (∀ a, O' a → O a) ∧ ¬ O' p ∧ Rep K own B T O' (η.set i none) σ H ∧ Ob K H O' p d := by
  obtain ⟨p, h1, h2, h3, h4⟩ := R.ow i d e hi
  refine ⟨p, fun a => O a ∧ a ≠ p, h1, fun a z => z.1, fun z => z.2 rfl, ?_, ?_⟩
  · have f : ∀ a o, H a = some o → ¬ O a → H a = some o ∧ ¬ (O a ∧ a ≠ p) := fun a o e n => ⟨e, fun z => n z.1⟩
    have ob : ∀ q d, Ob K H O q d → Ob K H (fun a => O a ∧ a ≠ p) q d := fun q d z => Ob.to f rfl z
    refine ⟨by rw [List.length_set]; exact R.len, fun j d' e' n => ?_, fun j d' e' n => ?_, fun q d' e' => ?_, fun j k d' d'' q hj hk e1 e2 => ?_, fun j d' q d'' hj e1 => ?_, fun j d' q hj hk e1 => R.nb j d' q hj hk (get_set_none e1).2, R.nbT, R.ndt, fun a z => ⟨R.base a z, fun y => R.nb i d p hi hP e h1 (y ▸ z)⟩, fun a z => R.tr a z.1, R.fr⟩
    · obtain ⟨v, z1, z2⟩ := R.sh j d' (get_set_none e').2 n
      exact ⟨v, z1, Da.to f d' v z2⟩
    · obtain ⟨ne, e2⟩ := get_set_none e'
      obtain ⟨q, z1, z2, z3, z4⟩ := R.ow j d' e2 n
      exact ⟨q, z1, ⟨z2, fun y => ne (R.ap j i d' d p n hi e2 e (y ▸ z1) h1)⟩, z3, ob q d' z4⟩
    · obtain ⟨z2, z3, z4⟩ := R.tm q d' e'
      exact ⟨⟨z2, fun y => R.apt i d p d' hi e h1 (y ▸ e')⟩, z3, ob q d' z4⟩
    · exact R.ap j k d' d'' q hj hk (get_set_none e1).2 (get_set_none e2).2
    · exact R.apt j d' q d'' hj (get_set_none e1).2
  · exact Ob.to (fun a o e n => ⟨e, fun z => n z.1⟩) rfl h4
theorem Ob.da {p : Addr} {d : D} (h : Ob K H O p d) (n : ¬ O p) : Da K H O d (.ref p) := by
  obtain ⟨o, xs, ds, hs, h1, h2, h3⟩ := h
  rcases hs with ⟨rfl, rfl⟩ | ⟨ks, rfl, hk, rfl⟩
  · simp only [Da]
    exact ⟨p, xs, rfl, h1, n, h2, h3⟩
  · simp only [Da]
    exact ⟨p, xs, rfl, h1, n, h2, hk, h3⟩
/-- an own place is written -/
theorem Rep.writeO (R : Rep K own B T O η σ H) {i : Nat} {p : Addr} {d d1 : D} {o1 : HO} {xs : List V} {ds : List D} (e : η[i]? = some (some d)) (hi : i ∈ own) (hp : σ[i]? = some (some (.ref p))) (hsh : Sh d1 ds o1 xs) (hl : xs.length ≤ LIM) (hd : DaL K H O ds xs) :
    Rep K own B T O (η.set i (some d1)) σ (upd H p o1) ∧ Fr O H (upd H p o1) := by
  obtain ⟨p', h1, h2, h3, h4⟩ := R.ow i d e hi
  obtain rfl : p' = p := by rw [h1] at hp; cases hp; rfl
  have fr : Fr O H (upd H p' o1) := fun a o ea na => by
    exact (upd_ne (show a ≠ p' from fun z => na (by rw [z]; exact h2))).trans ea
  have f : ∀ a o, H a = some o → ¬ O a → upd H p' o1 a = some o ∧ ¬ O a := fun a o ea na => ⟨fr a o ea na, na⟩
  have lt : i < η.length := (List.getElem?_eq_some_iff.mp e).1
  have back : ∀ j d', j ≠ i → (η.set i (some d1))[j]? = some (some d') → η[j]? = some (some d') := fun j d' ne q => by
    rw [List.getElem?_set_ne (Ne.symm ne)] at q; exact q
  have old : ∀ j d', (η.set i (some d1))[j]? = some (some d') → ∃ d'', η[j]? = some (some d'') := fun j d' q => by
    by_cases ne : j = i
    · exact ⟨d, ne ▸ e⟩
    · exact ⟨d', back j d' ne q⟩
  refine ⟨⟨by rw [List.length_set]; exact R.len, fun j d' e' n => ?_, fun j d' e' n => ?_, fun q d' e' => ?_, fun j k d' d'' q hj hk e1 e2 => ?_, fun j d' q d'' hj e1 => ?_, fun j d' q hj hk e1 => let ⟨x, e2⟩ := old j d' e1; R.nb j x q hj hk e2, R.nbT, R.ndt, R.base, fun a z => ?_, fun a o ea na => ?_⟩, fr⟩
  · have ne : j ≠ i := fun z => n (z ▸ hi)
    obtain ⟨v, z1, z2⟩ := R.sh j d' (back j d' ne e') n
    exact ⟨v, z1, Da.to f d' v z2⟩
  · by_cases ne : j = i
    · subst ne
      rw [List.getElem?_set_self lt] at e'
      cases e'
      exact ⟨p', h1, h2, h3, o1, xs, ds, hsh, upd_same, hl, DaL.to f ds xs hd⟩
    · obtain ⟨q, z1, z2, z3, z4⟩ := R.ow j d' (back j d' ne e') n
      refine ⟨q, z1, z2, z3, Ob.to f (upd_ne fun y => ?_) z4⟩
      exact ne (R.ap j i d' d p' n hi (back j d' ne e') e (y ▸ z1) h1)
  · obtain ⟨z2, z3, z4⟩ := R.tm q d' e'
    exact ⟨z2, z3, Ob.to f (upd_ne fun y => R.apt i d p' d' hi e h1 (y ▸ e')) z4⟩
  · obtain ⟨x, e1⟩ := old j d' e1
    obtain ⟨y, e2⟩ := old k d'' e2
    exact R.ap j k x y q hj hk e1 e2
  · obtain ⟨x, e1⟩ := old j d' e1
    exact R.apt j x q d'' hj e1
  · by_cases y : a = p'
    · exact ⟨_, by rw [y]; exact upd_same⟩
    · obtain ⟨o, e1⟩ := R.tr a z
      exact ⟨o, (upd_ne y).trans e1⟩
  · by_cases y : a = p'
    · rcases h3 with h3 | h3
      · rw [y, h3] at ea; cases ea
      · exact absurd (y ▸ h3) na
    · exact (upd_ne y).trans (R.fr a o ea na)
theorem Rep.write (R : Rep K own B T O η σ H) {i : Nat} {p : Addr} {d : D} {xs : List V} {ds : List D} (e : η[i]? = some (some d)) (hi : i ∈ own) (hp : σ[i]? = some (some (.ref p))) (hl : xs.length ≤ LIM) (hd : DaL K H O ds xs) :
    Rep K own B T O (η.set i (some (.lst ds))) σ (upd H p (.lst xs)) ∧ Fr O H (upd H p (.lst xs)) := R.writeO e hi hp Sh.lst hl hd
/-- a temporary list is written -/
theorem Rep.writeTO (R : Rep K own B ((p, d) :: T) O η σ H) {d1 : D} {o1 : HO} {xs : List V} {ds : List D} (hsh : Sh d1 ds o1 xs) (hl : xs.length ≤ LIM) (hd : DaL K H O ds xs) :
    Rep K own B ((p, d1) :: T) O η σ (upd H p o1) ∧ Fr O H (upd H p o1) := by
  obtain ⟨h2, h3, h4⟩ := R.tm p d (List.mem_cons_self ..)
  have fr : Fr O H (upd H p o1) := fun a o ea na => by
    exact (upd_ne (show a ≠ p from fun z => na (by rw [z]; exact h2))).trans ea
  have f : ∀ a o, H a = some o → ¬ O a → upd H p o1 a = some o ∧ ¬ O a := fun a o ea na => ⟨fr a o ea na, na⟩
  refine ⟨⟨R.len, fun j d' e' n => ?_, fun j d' e' n => ?_, fun q d' e' => ?_, R.ap, fun j d' q d'' hj e1 e2 => ?_, R.nb, fun q d' z => (List.mem_cons.mp z).elim (fun z => by rw [show q = p from congrArg Prod.fst z]; exact R.nbT p d (List.mem_cons_self ..)) fun z => R.nbT q d' (List.mem_cons_of_mem _ z), R.ndt, R.base, fun a z => ?_, fun a o ea na => ?_⟩, fr⟩
  · obtain ⟨v, z1, z2⟩ := R.sh j d' e' n
    exact ⟨v, z1, Da.to f d' v z2⟩
  · obtain ⟨q, z1, z2, z3, z4⟩ := R.ow j d' e' n
    exact ⟨q, z1, z2, z3, Ob.to f (upd_ne fun y => R.apt j d' q d n e' z1 (y ▸ List.mem_cons_self ..)) z4⟩
  · rcases List.mem_cons.mp e' with e' | e'
    · cases e'
      exact ⟨h2, h3, o1, xs, ds, hsh, upd_same, hl, DaL.to f ds xs hd⟩
    · obtain ⟨z2, z3, z4⟩ := R.tm q d' (List.mem_cons_of_mem _ e')
      have nd := R.ndt
      rw [List.map_cons, List.nodup_cons] at nd
      refine ⟨z2, z3, Ob.to f (upd_ne fun y => nd.1 ?_) z4⟩
      exact List.mem_map.mpr ⟨(q, d'), e', y⟩
  · intro e2'
    rcases List.mem_cons.mp e2' with z | z
    · have z1 : q = p := congrArg Prod.fst z
      exact R.apt j d' q d hj e1 e2 (by rw [z1]; exact List.mem_cons_self ..)
    · exact R.apt j d' q d'' hj e1 e2 (List.mem_cons_of_mem _ z)
  · by_cases y : a = p
    · exact ⟨_, by rw [y]; exact upd_same⟩
    · obtain ⟨o, e1⟩ := R.tr a z
      exact ⟨o, (upd_ne y).trans e1⟩
  · by_cases y : a = p
    · rcases h3 with h3 | h3
      · rw [y, h3] at ea; cases ea
      · exact absurd (y ▸ h3) na
    · exact (upd_ne y).trans (R.fr a o ea na)
theorem Rep.writeT (R : Rep K own B ((p, d) :: T) O η σ H) {xs : List V} {ds : List D} (hl : xs.length ≤ LIM) (hd : DaL K H O ds xs) :
    Rep K own B ((p, .lst ds) :: T) O η σ (upd H p (.lst xs)) ∧ Fr O H (upd H p (.lst xs)) := R.writeTO Sh.lst hl hd
/-- a new temporary list -/
theorem Rep.pushTO (R : Rep K own B T O η σ H) {p : Addr} {d1 : D} {o1 : HO} {xs : List V} {ds : List D} (hsh : Sh d1 ds o1 xs) (h : H p = none) (hB : B.H p = none ∨ B.M p) (hO : ¬ B.O p) (hl : xs.length ≤ LIM) (hd : DaL K H O ds xs) :
    Rep K own B ((p, d1) :: T) (fun a => O a ∨ a = p) η σ (upd H p o1) := by
  have f : ∀ a o, H a = some o → ¬ O a → upd H p o1 a = some o ∧ ¬ (O a ∨ a = p) := fun a o ea na => by
    have ne : a ≠ p := ne_of_none ea h
    exact ⟨(upd_ne ne).trans ea, fun z => z.elim na ne⟩
  have np : ∀ q d, Ob K H O q d → q ≠ p := fun q d ⟨_, _, _, _, e, _⟩ => ne_of_none e h
  have ob : ∀ q d, Ob K H O q d → Ob K (upd H p o1) (fun a => O a ∨ a = p) q d := fun q d z => Ob.to f (upd_ne (np q d z)) z
  refine ⟨R.len, fun j d' e' n => ?_, fun j d' e' n => ?_, fun q d' e' => ?_, R.ap, fun j d' q d'' hj e1 e2 => ?_, R.nb, fun q d' z => (List.mem_cons.mp z).elim (fun z => by rw [show q = p from congrArg Prod.fst z]; exact hO) fun z => R.nbT q d' z, ?_, fun a z => .inl (R.base a z), fun a z => ?_, fun a o ea na => ?_⟩
  · obtain ⟨v, z1, z2⟩ := R.sh j d' e' n
    exact ⟨v, z1, Da.to f d' v z2⟩
  · obtain ⟨q, z1, z2, z3, z4⟩ := R.ow j d' e' n
    exact ⟨q, z1, .inl z2, z3, ob q d' z4⟩
  · rcases List.mem_cons.mp e' with e' | e'
    · cases e'
      exact ⟨.inr rfl, hB, o1, xs, ds, hsh, upd_same, hl, DaL.to f ds xs hd⟩
    · obtain ⟨z2, z3, z4⟩ := R.tm q d' e'
      exact ⟨.inl z2, z3, ob q d' z4⟩
  · intro e2'
    rcases List.mem_cons.mp e2' with z | z
    · obtain ⟨q', z1, z2, z3, z4⟩ := R.ow j d' e1 hj
      rw [e2] at z1; cases z1
      exact np q d' z4 (congrArg Prod.fst z)
    · exact R.apt j d' q d'' hj e1 e2 z
  · rw [List.map_cons, List.nodup_cons]
    refine ⟨fun z => ?_, R.ndt⟩
    obtain ⟨⟨q, d'⟩, hq, e⟩ := List.mem_map.mp z
    have e : q = p := e
    obtain ⟨_, _, z4⟩ := R.tm q d' hq
    exact np q d' z4 e
  · rcases z with z | z
    · obtain ⟨o, e1⟩ := R.tr a z
      exact ⟨o, (upd_ne (ne_of_none e1 h)).trans e1⟩
    · exact ⟨_, by rw [z]; exact upd_same⟩
  · have e1 := R.fr a o ea na
    exact (upd_ne (ne_of_none e1 h)).trans e1
theorem Rep.pushT (R : Rep K own B T O η σ H) {p : Addr} {xs : List V} {ds : List D} (h : H p = none) (hB : B.H p = none ∨ B.M p) (hO : ¬ B.O p) (hl : xs.length ≤ LIM) (hd : DaL K H O ds xs) :
    Rep K own B ((p, .lst ds) :: T) (fun a => O a ∨ a = p) η σ (upd H p (.lst xs)) := R.pushTO Sh.lst h hB hO hl hd
/-- a temporary list becomes data -/
theorem Rep.popT (R : Rep K own B ((p, d) :: T) O η σ H) : ∃ O', (∀ a, O' a → O a) ∧ ¬ O' p ∧ (∀ a, O a → a ≠ p → O' a) ∧ Rep K own B T O' η σ H ∧ Ob K H O' p d := by
  obtain ⟨h2, h3, h4⟩ := R.tm p d (List.mem_cons_self ..)
  have f : ∀ a o, H a = some o → ¬ O a → H a = some o ∧ ¬ (O a ∧ a ≠ p) := fun a o e n => ⟨e, fun z => n z.1⟩
  have ob : ∀ q d, Ob K H O q d → Ob K H (fun a => O a ∧ a ≠ p) q d := fun q d z => Ob.to f rfl z
  have nd := R.ndt
  rw [List.map_cons, List.nodup_cons] at nd
  refine ⟨fun a => O a ∧ a ≠ p, fun a z => z.1, fun z => z.2 rfl, fun a z n => ⟨z, n⟩, ⟨R.len, fun j d' e' n => ?_, fun j d' e' n => ?_, fun q d' e' => ?_, R.ap, fun j d' q d'' hj e1 e2 z => R.apt j d' q d'' hj e1 e2 (List.mem_cons_of_mem _ z), R.nb, fun q d' z => R.nbT q d' (List.mem_cons_of_mem _ z), nd.2, fun a z => ⟨R.base a z, fun y => R.nbT p d (List.mem_cons_self ..) (y ▸ z)⟩, fun a z => R.tr a z.1, R.fr⟩, ob p d h4⟩
  · obtain ⟨v, z1, z2⟩ := R.sh j d' e' n
    exact ⟨v, z1, Da.to f d' v z2⟩
  · obtain ⟨q, z1, z2, z3, z4⟩ := R.ow j d' e' n
    exact ⟨q, z1, ⟨z2, fun y => R.apt j d' q d n e' z1 (y ▸ List.mem_cons_self ..)⟩, z3, ob q d' z4⟩
  · obtain ⟨z2, z3, z4⟩ := R.tm q d' (List.mem_cons_of_mem _ e')
    exact ⟨⟨z2, fun y => nd.1 (List.mem_map.mpr ⟨(q, d'), e', y⟩)⟩, z3, ob q d' z4⟩
end
end Py
set_option Elab.async false
set_option linter.all false
set_option maxRecDepth 100000
set_option maxHeartbeats 1000000
namespace Py
open PySem PySem.Spec PyProof.Rows L2
/-- the error classes by number: where they stand, what they keep -/
structure Exi where
  adr : Nat → Addr
  attr : Nat → Str
def XRel (G : Exi) (K : PySem.W.Frag) (O : Addr → Prop) (c : Nat) (p : Option D) (cls : Value) (d : Option Addr) (H : Hp) : Prop := cls = .ref (G.adr c) ∧ match p with
  | none => d = none
  | some x => ∃ dd v, d = some dd ∧ H dd = some (.xd [(G.attr c, v)]) ∧ Da K H O x v
def XOk (G : Exi) (X : Cx) (B : Base) (σ : L2.St) (c : Nat) (p : Option D) : Prop := ∃ W : WX, L2.Takes X W ∧ ∀ cls d H', XRel G X.K B.O c p cls d H' → (∀ a o, B.H a = some o → ¬ B.M a → H' a = some o) → W cls d σ H'
def OpV (K : PySem.W.Frag) (H : Hp) (O : Addr → Prop) (σ : L2.St) : Opd → V → Prop
  | .inl d, v => Da K H O d v
  | .inr i, v => σ[i]? = some (some v)
def DT (K : PySem.W.Frag) (H : Hp) (O : Addr → Prop) (d : D) (v : V) : Prop := Da K H O d v ∨ ∃ p, v = .ref p ∧ O p ∧ Ob K H O p d
section
variable {K : PySem.W.Frag} {own : List Nat} {B : Base} {T : List (Addr × D)} {O O' : Addr → Prop} {η : Env} {σ : L2.St} {H H' : Hp}
theorem OpV.fr {x : Opd} {v : V} (q : OpV K H O σ x v) (f : Fr O H H') (s : ∀ a, O' a → O a) : OpV K H' O' σ x v := by
  cases x with
  | inl d => exact Da.fr q f s
  | inr i => exact q
theorem rd_ok (R : Rep K own B T O η σ H) {x : Opd} {v : V} {d : D} (h : rd x η = .ok d) (q : OpV K H O σ x v) (hx : ∀ i, x = .inr i → i ∈ own) : DT K H O d v := by
  cases x with
  | inl d' => cases h; exact .inl q
  | inr i =>
    simp only [rd] at h
    have hi := hx i rfl
    split at h
    · rename_i d' e
      cases h
      obtain ⟨p, h1, h2, h3, h4⟩ := R.ow i _ e hi
      have e2 : σ[i]? = some (some v) := q
      rw [h1] at e2
      cases e2
      exact .inr ⟨p, rfl, h2, h4⟩
    · cases h
theorem DT.lst {ds : List D} {v : V} (h : DT K H O (.lst ds) v) : ∃ a xs, v = .ref a ∧ H a = some (.lst xs) ∧ xs.length ≤ LIM ∧ DaL K H O ds xs := by
  rcases h with h | ⟨p, e, _, o, xs, ds', e2, h1, h2, h3⟩
  · simp only [Da] at h
    obtain ⟨a, xs, e, h1, _, h2, h3⟩ := h
    exact ⟨a, xs, e, h1, h2, h3⟩
  · rcases e2 with ⟨e2, rfl⟩ | ⟨ks, e2, _⟩
    · cases e2
      exact ⟨p, xs, e, h1, h2, h3⟩
    · cases e2
theorem Ob.lstE {p : Addr} {ds : List D} (h : Ob K H O p (.lst ds)) : ∃ xs, H p = some (.lst xs) ∧ xs.length ≤ LIM ∧ DaL K H O ds xs := by
  obtain ⟨o, xs, ds', e2, h1, h2, h3⟩ := h
  rcases e2 with ⟨e2, rfl⟩ | ⟨ks, e2, _⟩
  · cases e2
    exact ⟨xs, h1, h2, h3⟩
  · cases e2
theorem Ob.dcE {p : Addr} {ks : List Int} {ds : List D} (h : Ob K H O p (.dc ks ds)) : ∃ xs, H p = some (.dK (kvz ks xs)) ∧ ks.length = ds.length ∧ xs.length ≤ LIM ∧ DaL K H O ds xs := by
  obtain ⟨o, xs, ds', e2, h1, h2, h3⟩ := h
  rcases e2 with ⟨e2, _⟩ | ⟨ks, e2, hk, rfl⟩
  · cases e2
  · cases e2
    exact ⟨xs, h1, hk, h2, h3⟩
theorem DT.dc {ks : List Int} {ds : List D} {v : V} (h : DT K H O (.dc ks ds) v) : ∃ a xs, v = .ref a ∧ H a = some (.dK (kvz ks xs)) ∧ xs.length ≤ LIM ∧ ks.length = ds.length ∧ DaL K H O ds xs := by
  rcases h with h | ⟨p, e, _, o, xs, ds', e2, h1, h2, h3⟩
  · simp only [Da] at h
    obtain ⟨a, xs, e, h1, _, h2, hk, h3⟩ := h
    exact ⟨a, xs, e, h1, h2, hk, h3⟩
  · rcases e2 with ⟨e2, rfl⟩ | ⟨ks, e2, hk, rfl⟩
    · cases e2
    · cases e2
      exact ⟨p, xs, e, h1, h2, hk, h3⟩
theorem DT.other {d : D} {v : V} (h : DT K H O d v) (n : ∀ ds, d ≠ .lst ds) (n2 : ∀ ks ds, d ≠ .dc ks ds := by intro _ _ z; cases z) : Da K H O d v := by
  rcases h with h | ⟨p, _, _, o, xs, ds', e2, _⟩
  · exact h
  · rcases e2 with ⟨e2, _⟩ | ⟨ks, e2, _⟩
    · exact absurd e2 (n _)
    · exact absurd e2 (n2 _ _)
theorem Da.int_of {i : Int} {v : V} (h : Da K H O (.int i) v) : v = .int i := by simpa only [Da] using h
theorem Da.int {i : Int} : Da K H O (.int i) (.int i) := by simp only [Da]
theorem Da.bl {b : Bool} : Da K H O (.bl b) (.bl b) := by simp only [Da]
theorem Da.non : Da K H O .non .non := by simp only [Da]
theorem Da.str {s : Str} : Da K H O (.str s) (.str s) := by simp only [Da]
theorem Da.tup_of {ds : List D} {v : V} (h : Da K H O (.tup ds) v) : ∃ a xs, v = .ref a ∧ H a = some (.tup xs) ∧ ¬ O a ∧ xs.length ≤ LIM ∧ DaL K H O ds xs := by simpa only [Da] using h
end
section
variable (G : Exi) (X : Cx) (cf : CF) (own : List Nat)
def Post (B : Base) (T : List (Addr × D)) (O : Addr → Prop) (σ : L2.St) (H : Hp) (Q : VK) (r : D × Env) : Prop :=
  ∀ (O' : Addr → Prop) (v : V) (H' : Hp), (∀ a, O' a → O a) → Rep X.K own B T O' r.2 σ H' → Fr O H H' → Da X.K H' O' r.1 v → Q v H'
def SE (q : E) (e : Expr) : Prop := ∀ (B : Base) (T : List (Addr × D)) (O : Addr → Prop) (η : Env) (σ : L2.St) (H : Hp) (Q : VK), Rep X.K own B T O η σ H →
  Sat (ev cf q η) (Post X own B T O σ H Q) (XOk G X B σ) → RE X e σ H Q
def PostO (B : Base) (T : List (Addr × D)) (O : Addr → Prop) (σ : L2.St) (H : Hp) (Q : VK) (r : Opd × Env) : Prop :=
  ∀ (O' : Addr → Prop) (v : V) (H' : Hp), (∀ a, O' a → O a) → Rep X.K own B T O' r.2 σ H' → Fr O H H' → OpV X.K H' O' σ r.1 v → (∀ i, r.1 = .inr i → i ∈ own) → Q v H'
def SO (q : E) (e : Expr) : Prop := ∀ (B : Base) (T : List (Addr × D)) (O : Addr → Prop) (η : Env) (σ : L2.St) (H : Hp) (Q : VK), Rep X.K own B T O η σ H →
  Sat (opd q (ev cf q) η) (PostO X own B T O σ H Q) (XOk G X B σ) → RE X e σ H Q
/-- a list that is made anew -/
def PostF (B : Base) (T : List (Addr × D)) (O : Addr → Prop) (σ : L2.St) (H : Hp) (Q : VK) (r : D × Env) : Prop := match r.1 with
  | .lst ds => ∀ (O' : Addr → Prop) (H1 : Hp) (p : Addr) (xs : List V), (∀ a, O' a → O a) → Rep X.K own B T O' r.2 σ H1 → Fr O H H1 → H1 p = none → xs.length ≤ LIM → DaL X.K H1 O' ds xs → Q (.ref p) (upd H1 p (.lst xs))
  | .dc ks ds => ∀ (O' : Addr → Prop) (H1 : Hp) (p : Addr) (xs : List V), (∀ a, O' a → O a) → Rep X.K own B T O' r.2 σ H1 → Fr O H H1 → H1 p = none → xs.length ≤ LIM → ks.length = ds.length → DaL X.K H1 O' ds xs → Q (.ref p) (upd H1 p (.dK (kvz ks xs)))
  | _ => False
def SF (q : E) (e : Expr) : Prop := ∀ (B : Base) (T : List (Addr × D)) (O : Addr → Prop) (η : Env) (σ : L2.St) (H : Hp) (Q : VK), Rep X.K own B T O η σ H →
  Sat (ev cf q η) (PostF X own B T O σ H Q) (XOk G X B σ) → RE X e σ H Q
end
section
variable {G : Exi} {X : Cx} {cf : CF} {own : List Nat}
theorem opd_np {q : E} {r : Env → R (D × Env)} {η : Env} (h : ∀ i, q ≠ .p i) : opd q r η = (r η).bind fun (d, η') => .ok (.inl d, η') := by
  cases q <;> first | rfl | exact absurd rfl (h _)
theorem SE.so {q : E} {e : Expr} (h : SE G X cf own q e) (n : ∀ i, q ≠ .p i) : SO G X cf own q e := by
  intro B T O η σ H Q R s
  rw [opd_np n] at s
  refine h B T O η σ H Q R (Sat.mono (Sat.bind.mp s) (fun r z O' v H' s1 R1 f1 d1 => z O' v H' s1 R1 f1 d1 (fun i e => nomatch e)) fun _ _ z => z)
theorem so_p {i : Nat} {x : Str} {pos : Pos} (hN : X.N[i]? = some x) (hv : Vis X.env.scope x) (hd : (x == ("__debug__" : Str)) = false) (hcd : (x == ("__classdict__" : Str)) = false) (hi : i ∈ own) : SO G X cf own (.p i) (.Name x pos) := by
  intro B T O η σ H Q R s
  unfold opd at s
  split at s
  · rename_i j e
    cases e
    split at s
    · rename_i d e
      obtain ⟨p, h1, h2, h3, h4⟩ := R.ow i d e hi
      exact RE.of (pe_var hN hv hd hcd) ⟨_, h1, s O _ H (fun _ z => z) R Fr.refl h1 fun j e => by cases e; exact hi⟩
    · exact s.elim
  · rename_i n
    exact absurd rfl (n i)
theorem se_k {d : D} {e : Expr} {v : V} (h : PE X e (tC v)) (hd : ∀ K H O, Da K H O d v) : SE G X cf own (.k d) e := by
  intro B T O η σ H Q R s
  simp only [ev] at s
  exact RE.of h (s O v H (fun _ z => z) R Fr.refl (hd _ _ _))
theorem se_v {i : Nat} {x : Str} {pos : Pos} (hN : X.N[i]? = some x) (hv : Vis X.env.scope x) (hd : (x == ("__debug__" : Str)) = false) (hcd : (x == ("__classdict__" : Str)) = false) (hi : i ∉ own) : SE G X cf own (.v i) (.Name x pos) := by
  intro B T O η σ H Q R s
  simp only [ev] at s
  split at s
  · rename_i d e
    obtain ⟨v, h1, h2⟩ := R.sh i d e hi
    exact RE.of (pe_var hN hv hd hcd) ⟨_, h1, s O _ H (fun _ z => z) R Fr.refl h2⟩
  · exact s.elim
theorem se_mv {i : Nat} {x : Str} {pos : Pos} (hN : X.N[i]? = some x) (hv : Vis X.env.scope x) (hd : (x == ("__debug__" : Str)) = false) (hcd : (x == ("__classdict__" : Str)) = false) (hi : i ∈ own)
    (h0 : i ≠ 0) : SE G X cf own (.mv i) (.Name x pos) := by
  intro B T O η σ H Q R s
  simp only [ev] at s
  split at s
  · rename_i d e
    obtain ⟨p, O', h1, h2, h3, h4, h5⟩ := R.move e hi (fun z => h0 (B.hP i z))
    exact RE.of (pe_var hN hv hd hcd) ⟨_, h1, s O' _ H h2 h4 Fr.refl (h5.da h3)⟩
  · exact s.elim
theorem SF.seO {q : E} {e : Expr} (h : SF G X cf own q e) (hf : ∀ η d η', ev cf q η = .ok (d, η') → (∃ ds, d = .lst ds) ∨ ∃ ks ds, d = .dc ks ds) : SE G X cf own q e := by
  intro B T O η σ H Q R s
  refine h B T O η σ H Q R ?_
  cases r : ev cf q η with
  | st => rw [r] at s; exact s
  | er c p => rw [r] at s; exact s
  | ok a =>
    obtain ⟨d, η'⟩ := a
    rw [r] at s
    rcases hf η d η' r with ⟨ds, rfl⟩ | ⟨ks, ds, rfl⟩
    · intro O' H1 p xs h1 R1 f1 hp hl hd
      exact s O' (.ref p) _ h1 (R1.same (Same.new hp)) (f1.trans h1 (Fr.new hp)) (R1.newL hp hl hd)
    · intro O' H1 p xs h1 R1 f1 hp hl hk hd
      exact s O' (.ref p) _ h1 (R1.same (Same.new hp)) (f1.trans h1 (Fr.new hp)) (R1.newD hp hk hl hd)
theorem SF.se {q : E} {e : Expr} (h : SF G X cf own q e) (hf : ∀ η d η', ev cf q η = .ok (d, η') → ∃ ds, d = .lst ds) : SE G X cf own q e := h.seO fun η d η' z => .inl (hf η d η' z)
/-! ### two operands -/
theorem one {q : E} {e : Expr} (h : SO G X cf own q e) {B : Base} {T : List (Addr × D)} {O : Addr → Prop} {η : Env} {σ : L2.St} {H : Hp} {γ : Type} {F : Opd × Env → R γ} {QF : γ → Prop} {Q : VK} (R : Rep X.K own B T O η σ H)
    (s : Sat ((opd q (ev cf q) η).bind F) QF (XOk G X B σ))
    (k : ∀ (x : Opd) (η1 : Env) (O1 : Addr → Prop) (v : V) (H1 : Hp), Sat (F (x, η1)) QF (XOk G X B σ) → (∀ a, O1 a → O a) → Rep X.K own B T O1 η1 σ H1 → Fr O H H1 → OpV X.K H1 O1 σ x v → (∀ i, x = .inr i → i ∈ own) → Q v H1) : RE X e σ H Q :=
  h B T O η σ H Q R (Sat.mono (Sat.bind.mp s) (fun r z O1 v H1 s1 R1 f1 o1 n1 => k r.1 r.2 O1 v H1 z s1 R1 f1 o1 n1) fun _ _ z => z)
theorem one' {q : E} {e : Expr} (h : SE G X cf own q e) {B : Base} {T : List (Addr × D)} {O : Addr → Prop} {η : Env} {σ : L2.St} {H : Hp} {γ : Type} {F : D × Env → R γ} {QF : γ → Prop} {Q : VK} (R : Rep X.K own B T O η σ H)
    (s : Sat ((ev cf q η).bind F) QF (XOk G X B σ))
    (k : ∀ (x : D) (η1 : Env) (O1 : Addr → Prop) (v : V) (H1 : Hp), Sat (F (x, η1)) QF (XOk G X B σ) → (∀ a, O1 a → O a) → Rep X.K own B T O1 η1 σ H1 → Fr O H H1 → Da X.K H1 O1 x v → Q v H1) : RE X e σ H Q :=
  h B T O η σ H Q R (Sat.mono (Sat.bind.mp s) (fun r z O1 v H1 s1 R1 f1 o1 => k r.1 r.2 O1 v H1 z s1 R1 f1 o1) fun _ _ z => z)
/-- the reading of an operator by values -/
def RO (X : Cx) (f : Value → Value → Sem Value) : R2 := fun x y H Q => ∀ (pins : List (Addr × Obj)) (s : Shared) (σ : L2.St) (v u : Value), Inv X pins σ H s → RelV x v → RelV y u → wpAny (model X.prog X.w) X.A (f v u) (EP X pins σ Q) X.xe s
theorem RO.op (f : Value → Value → Sem Value) : OpR X f (RO X f) := fun pins s σ H x y v u Q I rx ry h => h pins s σ v u I rx ry
theorem RO.of {f : Value → Value → Sem Value} {r : R2} (h : OpR X f r) {x y : V} {H : Hp} {Q : VK} (q : r x y H Q) : RO X f x y H Q := fun pins s σ v u I rx ry => h pins s σ H x y v u Q I rx ry q
def opOf : Bop → Operator
  | .add => .Add
  | .sub => .Sub
  | .mul => .Mult
  | .fdiv => .FloorDiv
  | .mod => .Mod
  | .pow => .Pow
def copOf : Cop → CmpOp
  | .eq => .Eq
  | .ne => .NotEq
  | .lt => .Lt
  | .le => .LtE
  | .gt => .Gt
  | .ge => .GtE
  | .in_ => .In
  | .notin => .NotIn
section
variable {H : Hp} {O : Addr → Prop} {Q : VK} {x y : V} {d dx dy : D}
theorem small_of {i : Int} (h : small i = true) : -(2 ^ 64) < i ∧ i < 2 ^ 64 := by
  unfold small at h
  rw [Bool.and_eq_true, decide_eq_true_eq, decide_eq_true_eq] at h
  exact h
theorem arith_ok {o : Bop} {i j : Int} (h : arith o i j = .ok d) (q : ∀ k, d = .int k → Q (.int k) H) : RO X (binaryOp (opOf o)) (.int i) (.int j) H Q := by
  cases o with
  | add => cases h; exact RO.of op_add ⟨i, j, rfl, rfl, q _ rfl⟩
  | sub => cases h; exact RO.of op_sub ⟨i, j, rfl, rfl, q _ rfl⟩
  | mul =>
    unfold arith at h
    dsimp only at h
    split at h
    · rename_i c
      cases h
      refine RO.of op_mul ⟨i, j, rfl, rfl, ?_, q _ rfl⟩
      rcases Bool.or_eq_true_iff.mp c with c | c
      · exact .inl (small_of c)
      · exact .inr (small_of c)
    · cases h
  | fdiv =>
    unfold arith at h
    dsimp only at h
    split at h
    · rename_i c
      cases h
      rw [Bool.and_eq_true, decide_eq_true_eq, decide_eq_true_eq] at c
      exact RO.of op_fdiv ⟨i, j, rfl, rfl, c, q _ rfl⟩
    · cases h
  | mod =>
    unfold arith at h
    dsimp only at h
    split at h
    · rename_i c
      cases h
      exact RO.of op_mod ⟨i, j, rfl, rfl, c, q _ rfl⟩
    · cases h
  | pow =>
    unfold arith at h
    dsimp only at h
    split at h
    · rename_i c
      cases h
      rw [Bool.and_eq_true, Bool.and_eq_true, decide_eq_true_eq, decide_eq_true_eq] at c
      obtain ⟨⟨c1, c2⟩, c3⟩ := c
      have c4 := small_of c1
      exact RO.of op_pow ⟨i, j, rfl, rfl, ⟨c2, c3, by omega⟩, q _ rfl⟩
    · cases h
theorem binop_ok {o : Bop} (h : binop o dx dy = .ok d) (hx : DT X.K H O dx x) (hy : DT X.K H O dy y)
    (q1 : ∀ v, Da X.K H O d v → Q v H)
    (q2 : ∀ p xs ds, H p = none → d = .lst ds → xs.length ≤ LIM → DaL X.K H O ds xs → Q (.ref p) (upd H p (.lst xs)))
    (q3 : ∀ p xs ds, H p = none → d = .tup ds → xs.length ≤ LIM → DaL X.K H O ds xs → Q (.ref p) (upd H p (.tup xs))) : RO X (binaryOp (opOf o)) x y H Q := by
  unfold binop at h
  split at h
  · have e1 := (hx.other fun _ z => nomatch z).int_of
    have e2 := (hy.other fun _ z => nomatch z).int_of
    subst e1 e2
    exact arith_ok h fun k e => q1 _ (by subst e; exact Da.int)
  · split at h
    · rename_i c
      cases h
      obtain ⟨a, xs, rfl, h1, h2, h3⟩ := hx.lst
      obtain ⟨b, ys, rfl, h4, h5, h6⟩ := hy.lst
      have l1 := h3.length
      have l2 := h6.length
      refine RO.of op_cat ⟨a, b, xs, ys, rfl, rfl, h1, h4, ?_, fun p hp => q2 p _ _ hp rfl ?_ (h3.append h6)⟩
      · rw [← LIM_line]; omega
      · rw [List.length_append]; omega
    · cases h
  · split at h
    · rename_i c
      cases h
      obtain ⟨a, xs, rfl, h1, h1', h2, h3⟩ := (hx.other fun _ z => nomatch z).tup_of
      obtain ⟨b, ys, rfl, h4, h4', h5, h6⟩ := (hy.other fun _ z => nomatch z).tup_of
      have l1 := h3.length
      have l2 := h6.length
      refine RO.of op_catA ⟨a, b, xs, ys, rfl, rfl, SqT.of h1, SqT.of h4, ?_, fun e => q1 _ ?_, fun n e => q1 _ ?_, fun _ _ p hp => q3 p _ _ hp rfl ?_ (h3.append h6)⟩
      · rw [← LIM_line]; omega
      · subst e
        have z : (_ : List D) = [] := List.length_eq_zero_iff.mp l1.symm
        rw [z]; simp only [Da, List.nil_append]
        exact ⟨b, ys, rfl, h4, h4', h5, h6⟩
      · subst e
        have z : (_ : List D) = [] := List.length_eq_zero_iff.mp l2.symm
        rw [z]; simp only [Da, List.append_nil]
        exact ⟨a, xs, rfl, h1, h1', h2, h3⟩
      · rw [List.length_append]; omega
    · cases h
  · split at h
    · rename_i c
      cases h
      obtain ⟨a, xs, rfl, h1, h2, h3⟩ := hx.lst
      have e2 := (hy.other fun _ z => nomatch z).int_of
      subst e2
      have l1 := h3.length
      rw [Bool.and_eq_true, Bool.and_eq_true, decide_eq_true_eq, decide_eq_true_eq, decide_eq_true_eq] at c
      obtain ⟨⟨c1, c2⟩, c3⟩ := c
      refine RO.of op_rep ⟨a, _, xs, rfl, rfl, h1, c1, c2, ?_, fun p hp => q2 p _ _ hp rfl ?_ (h3.rep _)⟩
      · rw [← LIM_line, l1]; exact c3
      · have : ∀ (n : Nat) (l : List V), (List.replicate n l).flatten.length = n * l.length := fun n l => by simp
        rw [this, l1, Nat.mul_comm]; exact c3
    · cases h
  · cases h
end
end
end Py
set_option Elab.async false
set_option linter.all false
set_option maxRecDepth 100000
set_option maxHeartbeats 1000000
namespace Py
open PySem PySem.Spec PyProof.Rows L2
theorem okS {α γ : Type} {r : R α} {F : α → R γ} {Q : γ → Prop} {E : Nat → Option D → Prop} (h : Sat ((noer r).bind F) Q E) : ∃ a, r = .ok a ∧ Sat (F a) Q E := by
  cases r with
  | ok a => exact ⟨a, rfl, h⟩
  | er c p => exact h.elim
  | st => exact h.elim
section
variable {K : PySem.W.Frag} {own : List Nat} {B : Base} {T : List (Addr × D)} {O O' : Addr → Prop} {η : Env} {σ : L2.St} {H H' : Hp}
theorem DT.fr {d : D} {v : V} (h : Da K H O d v) : DT K H O d v := .inl h
theorem tru_of {d : D} {v : V} {k : Bool} (h : truth d = .ok k) (q : DT K H O d v) : TruV K v H k := by
  cases d with
  | non => cases h; have e := q.other (fun _ z => nomatch z); simp only [Da] at e; subst e; rfl
  | bl b => cases h; have e := q.other (fun _ z => nomatch z); simp only [Da] at e; subst e; rfl
  | int i => cases h; have e := q.other (fun _ z => nomatch z); simp only [Da] at e; subst e; rfl
  | str s =>
    simp only [truth] at h
    have e := q.other (fun _ z => nomatch z)
    simp only [Da] at e
    subst e
    split at h
    · rename_i c
      cases h
      refine ⟨by rw [← LIM_line]; exact c, ?_⟩
      by_cases z : s.length = 0
      · rw [z]; rfl
      · have z1 : (s.length != 0) = true := by simpa using z
        have z2 : ((s.length : Int) != 0) = true := by simpa using z
        rw [z1, z2]
    · cases h
  | tup ds =>
    cases h
    obtain ⟨a, xs, rfl, h1, _, _, h3⟩ := (q.other fun _ z => nomatch z).tup_of
    refine .inr (.inl ⟨xs, SqT.of h1, ?_⟩)
    have l := h3.length
    cases xs <;> cases ds <;> first | rfl | cases l
  | lst ds =>
    cases h
    obtain ⟨a, xs, rfl, h1, _, h3⟩ := q.lst
    refine .inl ⟨xs, SqL.of h1, ?_⟩
    have l := h3.length
    cases xs <;> cases ds <;> first | rfl | cases l
  | rng lo hi => cases h
  | fz ds => cases h
  | er _ _ _ => cases h
  | dc ks ds =>
    cases h
    obtain ⟨a, xs, rfl, h1, _, hk, h3⟩ := q.dc
    refine .inr (.inr ⟨_, h1, ?_⟩)
    have l := h3.length
    cases ks <;> cases ds <;> cases xs <;> first | rfl | (cases l; done) | (cases hk; done) | simp at hk
def OpVs (K : PySem.W.Frag) (H : Hp) (O : Addr → Prop) (σ : L2.St) : List Opd → List V → Prop
  | [], vs => vs = []
  | x :: xs, vs => ∃ u us, vs = u :: us ∧ OpV K H O σ x u ∧ OpVs K H O σ xs us
theorem OpVs.fr : ∀ {xs : List Opd} {vs : List V}, OpVs K H O σ xs vs → Fr O H H' → (∀ a, O' a → O a) → OpVs K H' O' σ xs vs
  | [], vs, q, _, _ => q
  | x :: xs, vs, ⟨u, us, e, h1, h2⟩, f, s => ⟨u, us, e, h1.fr f s, OpVs.fr h2 f s⟩
theorem OpVs.length : ∀ {xs : List Opd} {vs : List V}, OpVs K H O σ xs vs → vs.length = xs.length
  | [], vs, q => by rw [q]; rfl
  | x :: xs, vs, ⟨u, us, e, h1, h2⟩ => by rw [e, List.length_cons, List.length_cons, OpVs.length h2]
theorem rds_plain : ∀ {xs : List Opd} {vs : List V} {ds : List D}, rds xs η = .ok ds → places xs = [] → OpVs K H O σ xs vs → DaL K H O ds vs
  | [], vs, ds, h, _, q => by
    have q : vs = [] := q
    subst q; cases h; exact DaL.nil
  | .inr i :: xs, vs, ds, h, p, q => by simp [places] at p
  | .inl d :: xs, vs, ds, h, p, ⟨u, us, e, h1, h2⟩ => by
    subst e
    have h : (R.ok d).bind (fun d => (rds xs η).bind fun ds => .ok (d :: ds)) = .ok ds := h
    have h : (rds xs η).bind (fun ds => .ok (d :: ds)) = R.ok ds := h
    cases r : rds xs η with
    | ok ds' =>
      rw [r] at h
      cases h
      exact DaL.cons h1 (rds_plain r p h2)
    | er c p => rw [r] at h; cases h
    | st => rw [r] at h; cases h
end
section
variable {G : Exi} {X : Cx} {cf : CF} {own : List Nat}
def PostOs (X : Cx) (own : List Nat) (B : Base) (T : List (Addr × D)) (O : Addr → Prop) (σ : L2.St) (H : Hp) (Q : List V → Hp → Prop) (r : List Opd × Env) : Prop :=
  ∀ (O' : Addr → Prop) (vs : List V) (H' : Hp), (∀ a, O' a → O a) → Rep X.K own B T O' r.2 σ H' → Fr O H H' → OpVs X.K H' O' σ r.1 vs → (∀ i, .inr i ∈ r.1 → i ∈ own) → Q vs H'
def SOs (G : Exi) (X : Cx) (cf : CF) (own : List Nat) (qs : List E) (es : List Expr) : Prop := ∀ (B : Base) (T : List (Addr × D)) (O : Addr → Prop) (η : Env) (σ : L2.St) (H : Hp) (Q : List V → Hp → Prop), Rep X.K own B T O η σ H →
  Sat (evs cf qs η) (PostOs X own B T O σ H Q) (XOk G X B σ) → RA X es σ H Q
theorem sos_nil : SOs G X cf own [] [] := by
  intro B T O η σ H Q R s
  simp only [evs] at s
  exact RA.of pa_nil (s O [] H (fun _ z => z) R Fr.refl rfl (fun i z => nomatch z))
theorem sos_cons {q : E} {qs : List E} {e : Expr} {es : List Expr} (h : SO G X cf own q e) (hs : SOs G X cf own qs es) (ns : starEach (e :: es) X.env = (false, eval e X.env) :: starEach es X.env) : SOs G X cf own (q :: qs) (e :: es) := by
  intro B T O η σ H Q R s
  simp only [evs] at s
  refine RA.of (pa_cons (RE.pe e) (RA.pa es) ns) ?_
  show RE X e σ H fun x H1 => RA X es σ H1 fun xs H2 => Q (x :: xs) H2
  refine one h R s fun x η1 O1 v H1 s1 i1 R1 f1 o1 n1 => ?_
  refine hs B T O1 η1 σ H1 _ R1 (Sat.mono (Sat.bind.mp s1) (fun r z O2 vs H2 i2 R2 f2 o2 n2 => ?_) fun _ _ z => z)
  refine z O2 (v :: vs) H2 (fun a y => i1 a (i2 a y)) R2 (f1.trans i1 f2) ⟨v, vs, rfl, o1.fr f2 i2, o2⟩ fun i hi => ?_
  rcases List.mem_cons.mp hi with hi | hi
  · exact n1 i hi.symm
  · exact n2 i hi
theorem evs_length : ∀ {qs : List E} {η η' : Env} {os : List Opd}, evs cf qs η = .ok (os, η') → os.length = qs.length
  | [], η, η', os, h => by simp only [evs] at h; cases h; rfl
  | q :: qs, η, η', os, h => by
    simp only [evs] at h
    cases r : opd q (ev cf q) η with
    | er c p => rw [r] at h; cases h
    | st => rw [r] at h; cases h
    | ok a =>
      rw [r] at h
      obtain ⟨x, η1⟩ := a
      have h : ((evs cf qs η1).bind fun (os, η2) => R.ok (x :: os, η2)) = .ok (os, η') := h
      cases r2 : evs cf qs η1 with
      | er c p => rw [r2] at h; cases h
      | st => rw [r2] at h; cases h
      | ok b =>
        rw [r2] at h
        obtain ⟨os', η2⟩ := b
        cases h
        rw [List.length_cons, List.length_cons, evs_length r2]
theorem many {qs : List E} {es : List Expr} (h : SOs G X cf own qs es) {B : Base} {T : List (Addr × D)} {O : Addr → Prop} {η : Env} {σ : L2.St} {H : Hp} {γ : Type} {F : List Opd × Env → R γ} {QF : γ → Prop} {Q : List V → Hp → Prop} (R : Rep X.K own B T O η σ H)
    (s : Sat ((evs cf qs η).bind F) QF (XOk G X B σ))
    (k : ∀ (xs : List Opd) (η1 : Env) (O1 : Addr → Prop) (vs : List V) (H1 : Hp), xs.length = qs.length → Sat (F (xs, η1)) QF (XOk G X B σ) → (∀ a, O1 a → O a) → Rep X.K own B T O1 η1 σ H1 → Fr O H H1 → OpVs X.K H1 O1 σ xs vs → (∀ i, .inr i ∈ xs → i ∈ own) → Q vs H1) : RA X es σ H Q := by
  refine h B T O η σ H Q R ?_
  have s2 := Sat.bind.mp s
  cases r : evs cf qs η with
  | er c p => rw [r] at s2; exact s2
  | st => rw [r] at s2; exact s2
  | ok a =>
    rw [r] at s2
    intro O1 vs H1 i1 R1 f1 o1 n1
    exact k a.1 a.2 O1 vs H1 (evs_length (η' := a.2) (by rw [r])) s2 i1 R1 f1 o1 n1
theorem se_tup {qs : List E} {es : List Expr} {x1 : Nat} {pos : Pos} (h : SOs G X cf own qs es) (hl : qs.length ≤ LIM) : SE G X cf own (.tup qs) (.Tuple es x1 pos) := by
  intro B T O η σ H Q R s
  simp only [ev] at s
  refine RE.of (pe_tup (RA.pa es)) ?_
  refine many h R s fun xs η1 O1 vs H1 l1 s1 i1 R1 f1 o1 n1 => ?_
  obtain ⟨ds, e1, s1⟩ := okS s1
  split at s1
  · rename_i c
    have hd := rds_plain e1 (List.isEmpty_iff.mp c) o1
    have l2 := o1.length
    refine ⟨by rw [← LIM_line]; omega, fun p hp => ?_⟩
    exact s1 O1 _ _ i1 (R1.same (Same.new hp)) (f1.trans i1 (Fr.new hp)) (R1.newT hp (by omega) hd)
  · exact s1.elim
theorem sf_lst {qs : List E} {es : List Expr} {pos : Pos} (h : SOs G X cf own qs es) (hl : qs.length ≤ LIM) : SF G X cf own (.lst qs) (.List es pos) := by
  intro B T O η σ H Q R s
  simp only [ev] at s
  refine RE.of (pe_lst (RA.pa es)) ?_
  refine many h R s fun xs η1 O1 vs H1 l1 s1 i1 R1 f1 o1 n1 => ?_
  obtain ⟨ds, e1, s1⟩ := okS s1
  split at s1
  · rename_i c
    have hd := rds_plain e1 (List.isEmpty_iff.mp c) o1
    have l2 := o1.length
    refine ⟨by rw [← LIM_line]; omega, fun p hp => ?_⟩
    exact s1 O1 H1 p vs i1 R1 f1 hp (by omega) hd
  · exact s1.elim
theorem bindOk {α β : Type} {r : R α} {f : α → R β} {b : β} (h : r.bind f = .ok b) : ∃ a, r = .ok a ∧ f a = .ok b := by
  cases r with
  | ok a => exact ⟨a, rfl, h⟩
  | er c p => cases h
  | st => cases h
theorem noerOk {α : Type} {r : R α} {a : α} (h : noer r = .ok a) : r = .ok a := by
  cases r with
  | ok b => exact h
  | er c p => cases h
  | st => cases h
theorem lst_lst {qs : List E} : ∀ η d η', ev cf (.lst qs) η = .ok (d, η') → ∃ ds, d = .lst ds := by
  intro η d η' h
  simp only [ev] at h
  obtain ⟨a, _, h⟩ := bindOk h
  obtain ⟨b, _, h⟩ := bindOk h
  split at h
  · cases h; exact ⟨_, rfl⟩
  · cases h
/-! ### operators -/
theorem se_bin {o : Bop} {a b : E} {ea eb : Expr} {pos : Pos} (ha : SO G X cf own a ea) (hb : SO G X cf own b eb) : SE G X cf own (.bin o a b) (.BinOp ea (opOf o) eb pos) := by
  intro B T O η σ H Q R s
  simp only [ev] at s
  refine RE.of (pe_op (RO.op _) (RE.pe ea) (RE.pe eb)) ?_
  refine one ha R s fun x η1 O1 v H1 s1 i1 R1 f1 o1 n1 => ?_
  refine one hb R1 s1 fun y η2 O2 u H2 s2 i2 R2 f2 o2 n2 => ?_
  obtain ⟨dx, e1, s2⟩ := okS s2
  obtain ⟨dy, e2, s2⟩ := okS s2
  obtain ⟨d, e3, s2⟩ := okS s2
  have ii : ∀ a, O2 a → O a := fun a z => i1 a (i2 a z)
  have ff := f1.trans i1 f2
  refine binop_ok e3 (rd_ok R2 e1 (o1.fr f2 i2) n1) (rd_ok R2 e2 o2 n2) (fun v z => s2 O2 v H2 ii R2 ff z) (fun p xs ds hp e l z => ?_) (fun p xs ds hp e l z => ?_)
  · subst e
    exact s2 O2 _ _ ii (R2.same (Same.new hp)) (ff.trans ii (Fr.new hp)) (R2.newL hp l z)
  · subst e
    exact s2 O2 _ _ ii (R2.same (Same.new hp)) (ff.trans ii (Fr.new hp)) (R2.newT hp l z)
theorem sf_bin {o : Bop} {a b : E} {ea eb : Expr} {pos : Pos} (ha : SO G X cf own a ea) (hb : SO G X cf own b eb) : SF G X cf own (.bin o a b) (.BinOp ea (opOf o) eb pos) := by
  intro B T O η σ H Q R s
  simp only [ev] at s
  refine RE.of (pe_op (RO.op _) (RE.pe ea) (RE.pe eb)) ?_
  refine one ha R s fun x η1 O1 v H1 s1 i1 R1 f1 o1 n1 => ?_
  refine one hb R1 s1 fun y η2 O2 u H2 s2 i2 R2 f2 o2 n2 => ?_
  obtain ⟨dx, e1, s2⟩ := okS s2
  obtain ⟨dy, e2, s2⟩ := okS s2
  obtain ⟨d, e3, s2⟩ := okS s2
  have ii : ∀ a, O2 a → O a := fun a z => i1 a (i2 a z)
  have ff := f1.trans i1 f2
  have D1 := rd_ok R2 e1 (o1.fr f2 i2) n1
  have D2 := rd_ok R2 e2 o2 n2
  have s2 : PostF X own B T O σ H Q (d, η2) := s2
  -- only lists that are made anew come to an end
  unfold binop at e3
  split at e3
  · exfalso
    have : ∃ k, d = .int k := by
      unfold arith at e3
      split at e3 <;> first | (cases e3; exact ⟨_, rfl⟩) | (split at e3 <;> first | (cases e3; exact ⟨_, rfl⟩) | cases e3)
    obtain ⟨k, rfl⟩ := this
    exact s2
  · split at e3
    · rename_i c
      cases e3
      obtain ⟨p1, xs, rfl, h1, h2, h3⟩ := D1.lst
      obtain ⟨p2, ys, rfl, h4, h5, h6⟩ := D2.lst
      have l1 := h3.length
      have l2 := h6.length
      refine RO.of op_cat ⟨p1, p2, xs, ys, rfl, rfl, h1, h4, ?_, fun p hp => s2 O2 H2 p _ ii R2 ff hp ?_ (h3.append h6)⟩
      · rw [← LIM_line]; omega
      · rw [List.length_append]; omega
    · cases e3
  · split at e3
    · cases e3; exact s2.elim
    · cases e3
  · split at e3
    · rename_i c
      cases e3
      obtain ⟨p1, xs, rfl, h1, h2, h3⟩ := D1.lst
      have e2 := (D2.other fun _ z => nomatch z).int_of
      subst e2
      have l1 := h3.length
      rw [Bool.and_eq_true, Bool.and_eq_true, decide_eq_true_eq, decide_eq_true_eq, decide_eq_true_eq] at c
      obtain ⟨⟨c1, c2⟩, c3⟩ := c
      refine RO.of op_rep ⟨p1, _, xs, rfl, rfl, h1, c1, c2, ?_, fun p hp => s2 O2 H2 p _ ii R2 ff hp ?_ (h3.rep _)⟩
      · rw [← LIM_line, l1]; exact c3
      · have : ∀ (n : Nat) (l : List V), (List.replicate n l).flatten.length = n * l.length := fun n l => by simp
        rw [this, l1, Nat.mul_comm]; exact c3
    · cases e3
  · cases e3
theorem dIntS {d : D} {i : Int} (h : dInt d = .ok i) : d = .int i := by
  cases d <;> first | (cases h; rfl) | cases h
theorem se_neg {a : E} {ea : Expr} {pos : Pos} (ha : SE G X cf own a ea) : SE G X cf own (.neg a) (.UnaryOp .USub ea pos) := by
  intro B T O η σ H Q R s
  simp only [ev] at s
  refine RE.of (pe_un un_neg (RE.pe ea)) ?_
  refine one' ha R s fun d η1 O1 v H1 s1 i1 R1 f1 o1 => ?_
  obtain ⟨i, e1, s1⟩ := okS s1
  have e2 := dIntS e1
  subst e2
  have e3 := o1.int_of
  subst e3
  exact ⟨i, rfl, s1 O1 _ H1 i1 R1 f1 Da.int⟩
end
end Py
set_option Elab.async false
set_option linter.all false
set_option maxRecDepth 100000
set_option maxHeartbeats 1000000
namespace Py
open PySem PySem.Spec PyProof.Rows L2
section
variable {K : PySem.W.Frag} {own : List Nat} {B : Base} {T : List (Addr × D)} {O O' : Addr → Prop} {η : Env} {σ : L2.St} {H H' : Hp}
mutual
theorem dp_of : ∀ (d : D) (v : V) (x : PyData), toPy d = some x → Da K H O d v → Dp K H v x
  | .non, v, x, h, q => by cases h; simp only [Da] at q; subst q; exact .non
  | .bl b, v, x, h, q => by cases h; simp only [Da] at q; subst q; exact .bl b
  | .int i, v, x, h, q => by cases h; simp only [Da] at q; subst q; exact .int i
  | .str s, v, x, h, q => by cases h; simp only [Da] at q; subst q; exact .str s
  | .tup ds, v, x, h, q => by
    simp only [toPy, Option.map_eq_some_iff] at h
    obtain ⟨ys, h1, rfl⟩ := h
    simp only [Da] at q
    obtain ⟨a, xs, rfl, z1, _, _, z3⟩ := q
    exact .tup (SqT.of z1) (dpl_of ds xs ys h1 z3)
  | .lst ds, v, x, h, q => by
    simp only [toPy, Option.map_eq_some_iff] at h
    obtain ⟨ys, h1, rfl⟩ := h
    simp only [Da] at q
    obtain ⟨a, xs, rfl, z1, _, _, z3⟩ := q
    exact .lst (SqL.of z1) (dpl_of ds xs ys h1 z3)
  | .rng _ _, v, x, h, q => by simp only [toPy] at h; cases h
  | .fz _, v, x, h, q => by simp only [toPy] at h; cases h
  | .dc _ _, v, x, h, q => by simp only [toPy] at h; cases h
  | .er _ _ _, v, x, h, q => by simp only [toPy] at h; cases h
theorem dpl_of : ∀ (ds : List D) (vs : List V) (xs : List PyData), toPys ds = some xs → DaL K H O ds vs → DpAll K H vs xs
  | [], vs, xs, h, q => by simp only [toPys] at h; cases h; simp only [DaL] at q; subst q; exact .nil
  | d :: ds, vs, xs, h, q => by
    simp only [toPys] at h
    simp only [DaL] at q
    obtain ⟨v, us, rfl, z1, z2⟩ := q
    split at h
    · rename_i y ys e1 e2
      cases h
      exact .cons (dp_of d v y e1 z1) (dpl_of ds us ys e2 z2)
    · cases h
end
theorem dp_dt {d : D} {v : V} {x : PyData} (h : toPy d = some x) (q : DT K H O d v) : Dp K H v x := by
  rcases q with q | ⟨p, rfl, _, o, xs, ds, hs, h1, h2, h3⟩
  · exact dp_of d v x h q
  · rcases hs with ⟨rfl, rfl⟩ | ⟨ks, rfl, _, _⟩
    · simp only [toPy, Option.map_eq_some_iff] at h
      obtain ⟨ys, e, rfl⟩ := h
      exact .lst (SqL.of h1) (dpl_of ds xs ys e h3)
    · simp only [toPy] at h; cases h
end
section
variable {G : Exi} {X : Cx} {cf : CF} {own : List Nat}
def rInK (neg : Bool) : R2 := fun x y H Q => ∃ (a : Addr) (k : Int) (o : Option V), x = .int k ∧ y = .ref a ∧ DGet H a (.int k) o ∧ Q (.bl (if neg then !o.isSome else o.isSome)) H
theorem op_inK (hu : X.A.units + 1 < cLine) : OpR X (compareOp .In) (rInK false) := by
  rintro pins s σ H x y v u Q I rx ry ⟨a, k, o, rfl, rfl, g, q⟩
  cases (show u = Value.ref a from ry)
  exact d_in hu I g rx fun s' I' => ⟨.bl _, H, I', rfl, q⟩
theorem op_ninK (hu : X.A.units + 1 < cLine) : OpR X (compareOp .NotIn) (rInK true) := by
  rintro pins s σ H x y v u Q I rx ry ⟨a, k, o, rfl, rfl, g, q⟩
  cases (show u = Value.ref a from ry)
  exact d_notIn hu I g rx fun s' I' => ⟨.bl _, H, I', rfl, q⟩
def rInT (K : PySem.W.Frag) (neg : Bool) : R2 := fun x y H Q => ∃ (d0 : PyData) (es : List PyData), Dp K H x d0 ∧ Dp K H y (.tuple es) ∧ SeqAt.shaped d0 = true ∧ SeqAt.shaped (.tuple es) = true ∧ Q (.bl (if neg then !es.any fun z => PyData.eqv z d0 else es.any fun z => PyData.eqv z d0)) H
theorem room_t {A : Around} {es : List PyData} {d0 : PyData} (sd : SeqAt.shaped d0 = true) (hu : A.units + 65 < cLine) : A.units + 1 + min (PyData.depthAll es) d0.depth < cLine := by
  have h1 := SeqAt.depth_of_shaped sd
  have h2 : min (PyData.depthAll es) d0.depth ≤ d0.depth := Nat.min_le_right _ _
  omega
theorem op_inT (hu : X.A.units + 65 < cLine) : OpR X (compareOp .In) (rInT X.K false) := by
  rintro pins s σ H x y v u Q I rx ry ⟨d0, es, hd0, hes, sh1, sh2, q⟩
  obtain ⟨as1, z1⟩ := Dp.reads I d0 x v hd0 rx
  obtain ⟨as2, z2⟩ := Dp.reads I (.tuple es) y u hes ry
  exact SeqAt.in_tuple_reads z2 z1 (SeqAt.canLay_of_shaped sh2) (SeqAt.canLay_of_shaped sh1) (room_t sh1 hu) ⟨.bl _, H, I, rfl, q⟩
theorem op_ninT (hu : X.A.units + 65 < cLine) : OpR X (compareOp .NotIn) (rInT X.K true) := by
  rintro pins s σ H x y v u Q I rx ry ⟨d0, es, hd0, hes, sh1, sh2, q⟩
  obtain ⟨as1, z1⟩ := Dp.reads I d0 x v hd0 rx
  obtain ⟨as2, z2⟩ := Dp.reads I (.tuple es) y u hes ry
  exact SeqAt.notIn_tuple_reads z2 z1 (SeqAt.canLay_of_shaped sh2) (SeqAt.canLay_of_shaped sh1) (room_t sh1 hu) ⟨.bl _, H, I, rfl, q⟩
section
variable {H : Hp} {O : Addr → Prop} {Q : VK} {x y : V} {d dx dy : D}
theorem deqS {b : Bool} (h : deq dx dy = .ok b) : ∃ p q, toPy dx = some p ∧ toPy dy = some q ∧ SeqAt.shaped p = true ∧ SeqAt.shaped q = true ∧ b = PyData.eqv p q := by
  unfold deq at h
  split at h
  · rename_i p q e1 e2
    split at h
    · rename_i c
      cases h
      rw [Bool.and_eq_true] at c
      exact ⟨p, q, e1, e2, c.1, c.2, rfl⟩
    · cases h
  · cases h
theorem isInS0 {b : Bool} (h : isIn0 dx dy = .ok b) : ∃ p, toPy dx = some p ∧ SeqAt.shaped p = true ∧
    ((∃ ds, toPy dy = some (.list ds) ∧ SeqAt.shaped (.list ds) = true ∧ b = ds.any fun z => PyData.eqv z p) ∨ ∃ ds, toPy dy = some (.tuple ds) ∧ SeqAt.shaped (.tuple ds) = true ∧ b = ds.any fun z => PyData.eqv z p) := by
  unfold isIn0 at h
  split at h
  · rename_i p ds e1 e2
    split at h
    · rename_i c
      cases h
      rw [Bool.and_eq_true] at c
      exact ⟨p, e1, c.1, .inl ⟨ds, e2, c.2, rfl⟩⟩
    · cases h
  · rename_i p ds e1 e2
    split at h
    · rename_i c
      cases h
      rw [Bool.and_eq_true] at c
      exact ⟨p, e1, c.1, .inr ⟨ds, e2, c.2, rfl⟩⟩
    · cases h
  · cases h
theorem isInS {b : Bool} (h : isIn dx dy = .ok b) : isIn0 dx dy = .ok b ∨ ∃ k ks ds, dx = .int k ∧ dy = .dc ks ds ∧ b = (dcGet ks ds k).isSome := by
  unfold isIn at h
  split at h
  · cases h; exact .inr ⟨_, _, _, rfl, rfl, rfl⟩
  · cases h
  · exact .inl h
theorem dget_of {k : Int} {ks : List Int} {ds : List D} (hx : DT X.K H O (.int k) x) (hy : DT X.K H O (.dc ks ds) y) : x = .int k ∧ ∃ a xs, y = .ref a ∧ H a = some (.dK (kvz ks xs)) ∧ DGet H a (.int k) (valV (kvz ks xs) (.inl k)) ∧ xs.length ≤ LIM ∧ ks.length = ds.length ∧ DaL X.K H O ds xs := by
  have e1 := (hx.other fun _ z => nomatch z).int_of
  obtain ⟨a, xs, rfl, h1, h2, hk, h3⟩ := hy.dc
  exact ⟨e1, a, xs, rfl, h1, DGet.k (k := .inl k) h1, h2, hk, h3⟩
theorem cmpop_ok {o : Cop} {b : Bool} (hu : X.A.units + 65 < cLine) (h : cmpop o dx dy = .ok b) (hx : DT X.K H O dx x) (hy : DT X.K H O dy y) (q : Q (.bl b) H) : RO X (compareOp (copOf o)) x y H Q := by
  unfold cmpop at h
  split at h
  · obtain ⟨p, r, e1, e2, s1, s2, rfl⟩ := deqS h
    exact RO.of (op_eqD (by omega)) ⟨p, r, dp_dt e1 hx, dp_dt e2 hy, s1, s2, q⟩
  · obtain ⟨b', h1, h2⟩ := bindOk h
    cases h2
    obtain ⟨p, r, e1, e2, s1, s2, rfl⟩ := deqS h1
    exact RO.of (op_neD (by omega)) ⟨p, r, dp_dt e1 hx, dp_dt e2 hy, s1, s2, q⟩
  all_goals first
    | (cases h
       have e1 := (hx.other fun _ z => nomatch z).int_of
       have e2 := (hy.other fun _ z => nomatch z).int_of
       subst e1 e2
       first
         | exact RO.of op_lt ⟨_, _, rfl, rfl, q⟩
         | exact RO.of op_le ⟨_, _, rfl, rfl, q⟩
         | exact RO.of op_gt ⟨_, _, rfl, rfl, q⟩
         | exact RO.of op_ge ⟨_, _, rfl, rfl, q⟩)
    | skip
  · rcases isInS h with h | ⟨k, ks, ds, rfl, rfl, rfl⟩
    rotate_left
    · obtain ⟨rfl, a, xs, rfl, h1, g, _, _, h3⟩ := dget_of hx hy
      exact RO.of (op_inK (by omega)) ⟨a, k, _, rfl, rfl, g, by rw [kvz_some h3]; exact q⟩
    obtain ⟨p, e1, s1, z | z⟩ := isInS0 h
    · obtain ⟨ds, e2, s2, rfl⟩ := z
      exact RO.of (op_inD hu) ⟨p, ds, dp_dt e1 hx, dp_dt e2 hy, s1, s2, q⟩
    · obtain ⟨ds, e2, s2, rfl⟩ := z
      exact RO.of (op_inT hu) ⟨p, ds, dp_dt e1 hx, dp_dt e2 hy, s1, s2, q⟩
  · obtain ⟨b', h1, h2⟩ := bindOk h
    cases h2
    rcases isInS h1 with h1 | ⟨k, ks, ds, rfl, rfl, rfl⟩
    rotate_left
    · obtain ⟨rfl, a, xs, rfl, h1, g, _, _, h3⟩ := dget_of hx hy
      exact RO.of (op_ninK (by omega)) ⟨a, k, _, rfl, rfl, g, by rw [kvz_some h3]; exact q⟩
    obtain ⟨p, e1, s1, z | z⟩ := isInS0 h1
    · obtain ⟨ds, e2, s2, rfl⟩ := z
      exact RO.of (op_notInD hu) ⟨p, ds, dp_dt e1 hx, dp_dt e2 hy, s1, s2, q⟩
    · obtain ⟨ds, e2, s2, rfl⟩ := z
      exact RO.of (op_ninT hu) ⟨p, ds, dp_dt e1 hx, dp_dt e2 hy, s1, s2, q⟩
  · cases h
end
theorem se_cmp {o : Cop} {a b : E} {ea eb : Expr} {pos : Pos} (hu : X.A.units + 65 < cLine) (ha : SO G X cf own a ea) (hb : SO G X cf own b eb) (hm : behindInMarks (copOf o) eb = false) : SE G X cf own (.cmp o a b) (.Compare ea [copOf o] [eb] pos) := by
  intro B T O η σ H Q R s
  simp only [ev] at s
  refine RE.of (pe_cmpR (RO.op _) (RE.pe ea) (RE.pe eb) hm) ?_
  refine one ha R s fun x η1 O1 v H1 s1 i1 R1 f1 o1 n1 => ?_
  refine one hb R1 s1 fun y η2 O2 u H2 s2 i2 R2 f2 o2 n2 => ?_
  obtain ⟨dx, e1, s2⟩ := okS s2
  obtain ⟨dy, e2, s2⟩ := okS s2
  obtain ⟨d, e3, s2⟩ := okS s2
  exact cmpop_ok hu e3 (rd_ok R2 e1 (o1.fr f2 i2) n1) (rd_ok R2 e2 o2 n2) (s2 O2 _ H2 (fun a z => i1 a (i2 a z)) R2 (f1.trans i1 f2) Da.bl)
theorem non_of {K : PySem.W.Frag} {H : Hp} {O : Addr → Prop} {d : D} {v : V} (q : DT K H O d v) : decide (v = .non) = isNonD d := by
  rcases q with q | ⟨p, rfl, _, o, xs, ds, hs, _⟩
  · cases d <;> simp only [Da] at q
    all_goals first
      | (subst q; rfl)
      | (obtain ⟨a, q⟩ := q
         have q : v = .ref a := by first | exact q.1 | exact q.choose_spec.1
         subst q; rfl)
  · rcases hs with ⟨rfl, _⟩ | ⟨ks, rfl, _⟩ <;> rfl
theorem se_isn {a : E} {ea : Expr} {j : Nat} {pos pos' : Pos} (ha : SO G X cf own a ea) : SE G X cf own (.isn a) (.Compare ea [.Is] [.Constant .none j pos'] pos) := by
  intro B T O η σ H Q R s
  simp only [ev] at s
  refine RE.of (pe_cmpR op_isN (RE.pe ea) pe_non (nomark _)) ?_
  refine one ha R s fun x η1 O1 v H1 s1 i1 R1 f1 o1 n1 => ?_
  obtain ⟨d, e1, s1⟩ := okS s1
  refine ⟨rfl, ?_⟩
  rw [non_of (rd_ok R1 e1 o1 n1)]
  exact s1 O1 _ H1 i1 R1 f1 Da.bl
theorem se_notn {a : E} {ea : Expr} {j : Nat} {pos pos' : Pos} (ha : SO G X cf own a ea) : SE G X cf own (.notn a) (.Compare ea [.IsNot] [.Constant .none j pos'] pos) := by
  intro B T O η σ H Q R s
  simp only [ev] at s
  refine RE.of (pe_cmpR op_notN (RE.pe ea) pe_non (nomark _)) ?_
  refine one ha R s fun x η1 O1 v H1 s1 i1 R1 f1 o1 n1 => ?_
  obtain ⟨d, e1, s1⟩ := okS s1
  refine ⟨rfl, ?_⟩
  rw [non_of (rd_ok R1 e1 o1 n1)]
  exact s1 O1 _ H1 i1 R1 f1 Da.bl
theorem se_chain {o o' : Cop} {a b c : E} {ea eb ec : Expr} {pos : Pos} (hu : X.A.units + 65 < cLine) (ha : SE G X cf own a ea) (hb : SE G X cf own b eb) (hc : SE G X cf own c ec) (hm : lastMarks [copOf o, copOf o'] [eb, ec] = false) :
    SE G X cf own (.chain o o' a b c) (.Compare ea [copOf o, copOf o'] [eb, ec] pos) := by
  intro B T O η σ H Q R s
  simp only [ev] at s
  refine RE.of (pe_chain (RO.op _) (RO.op _) (RE.pe ea) (RE.pe eb) (RE.pe ec) hm) ?_
  refine one' ha R s fun x η1 O1 v H1 s1 i1 R1 f1 o1 => ?_
  refine one' hb R1 s1 fun y η2 O2 u H2 s2 i2 R2 f2 o2 => ?_
  obtain ⟨k, e3, s2⟩ := okS s2
  refine cmpop_ok hu e3 (.inl (o1.fr f2 i2)) (.inl o2) ⟨k, rfl, ?_⟩
  cases k with
  | false => exact s2 O2 _ H2 (fun a z => i1 a (i2 a z)) R2 (f1.trans i1 f2) Da.bl
  | true =>
    refine one' hc R2 s2 fun w η3 O3 u' H3 s3 i3 R3 f3 o3 => ?_
    obtain ⟨k', e4, s3⟩ := okS s3
    exact cmpop_ok hu e4 (.inl (o2.fr f3 i3)) (.inl o3) (s3 O3 _ H3 (fun a z => i1 a (i2 a (i3 a z))) R3 ((f1.trans i1 f2).trans (fun a z => i1 a (i2 a z)) f3) Da.bl)
end
end Py
set_option Elab.async false
set_option linter.all false
set_option maxRecDepth 100000
set_option maxHeartbeats 1000000
namespace Py
open PySem PySem.Spec PyProof.Rows L2
/-- a test's answer -/
def evB (cf : CF) (q : E) (η : Env) : R (Bool × Env) := (opd q (ev cf q) η).bind fun (x, η1) => (noer (rd x η1)).bind fun d => (noer (truth d)).bind fun k => .ok (k, η1)
section
variable {G : Exi} {X : Cx} {cf : CF} {own : List Nat}
def PostB (X : Cx) (own : List Nat) (B : Base) (T : List (Addr × D)) (O : Addr → Prop) (σ : L2.St) (H : Hp) (Q : Bool → Hp → Prop) (r : Bool × Env) : Prop :=
  ∀ (O' : Addr → Prop) (H' : Hp), (∀ a, O' a → O a) → Rep X.K own B T O' r.2 σ H' → Fr O H H' → Q r.1 H'
def ST (G : Exi) (X : Cx) (cf : CF) (own : List Nat) (q : E) (e : Expr) : Prop := ∀ (B : Base) (T : List (Addr × D)) (O : Addr → Prop) (η : Env) (σ : L2.St) (H : Hp) (Q : Bool → Hp → Prop), Rep X.K own B T O η σ H →
  Sat (evB cf q η) (PostB X own B T O σ H Q) (XOk G X B σ) → RT X e σ H Q
theorem evB_np {q : E} {η : Env} (n : ∀ i, q ≠ .p i) : evB cf q η = (ev cf q η).bind fun (d, η1) => (noer (truth d)).bind fun k => .ok (k, η1) := by
  unfold evB
  rw [opd_np n]
  cases ev cf q η <;> rfl
theorem st_plain {q : E} {e : Expr} (h : SO G X cf own q e) (he : ∀ whole, isTrue e X.env whole = (do let v ← whole; standAt e.pos; holding [v] (truthy v))) : ST G X cf own q e := by
  intro B T O η σ H Q R s
  unfold evB at s
  refine RT.of (pt_truth (RE.pe e) he) ?_
  refine one h R s fun x η1 O1 v H1 s1 i1 R1 f1 o1 n1 => ?_
  obtain ⟨d, e1, s1⟩ := okS s1
  obtain ⟨k, e2, s1⟩ := okS s1
  exact ⟨k, tru_of e2 (rd_ok R1 e1 o1 n1), s1 O1 H1 i1 R1 f1⟩
/-- a test by a reading that gives truth values -/
theorem st_core {q : E} {e : Expr} {t : TE} (np : ∀ i, q ≠ .p i) (ht : PT X e (tTest t)) (bl : ∀ η d η', ev cf q η = .ok (d, η') → ∃ b, d = .bl b)
    (core : ∀ (B : Base) (T : List (Addr × D)) (O : Addr → Prop) (η : Env) (σ : L2.St) (H : Hp) (Q : VK), Rep X.K own B T O η σ H → Sat (ev cf q η) (Post X own B T O σ H Q) (XOk G X B σ) → t σ H Q) : ST G X cf own q e := by
  intro B T O η σ H Q R s
  rw [evB_np np] at s
  refine RT.of ht ?_
  show t σ H fun x H' => ∃ k, x = .bl k ∧ Q k H'
  refine core B T O η σ H _ R ?_
  cases r : ev cf q η with
  | er c p => rw [r] at s; exact s
  | st => rw [r] at s; exact s
  | ok a =>
    obtain ⟨d, η1⟩ := a
    obtain ⟨b, rfl⟩ := bl η d η1 r
    rw [r] at s
    have s : PostB X own B T O σ H Q (b, η1) := s
    intro O' v H' i1 R1 f1 o1
    have o1 : Da X.K H' O' (.bl b) v := o1
    simp only [Da] at o1
    exact ⟨b, o1, s O' H' i1 R1 f1⟩
theorem cmp_core {o : Cop} {a b : E} {ea eb : Expr} (hu : X.A.units + 65 < cLine) (ha : SO G X cf own a ea) (hb : SO G X cf own b eb) (B : Base) (T : List (Addr × D)) (O : Addr → Prop) (η : Env) (σ : L2.St) (H : Hp) (Q : VK) (R : Rep X.K own B T O η σ H)
    (s : Sat (ev cf (.cmp o a b) η) (Post X own B T O σ H Q) (XOk G X B σ)) : tOp (RO X (compareOp (copOf o))) (RE X ea) (RE X eb) σ H Q := by
  simp only [ev] at s
  refine one ha R s fun x η1 O1 v H1 s1 i1 R1 f1 o1 n1 => ?_
  refine one hb R1 s1 fun y η2 O2 u H2 s2 i2 R2 f2 o2 n2 => ?_
  obtain ⟨dx, e1, s2⟩ := okS s2
  obtain ⟨dy, e2, s2⟩ := okS s2
  obtain ⟨d, e3, s2⟩ := okS s2
  exact cmpop_ok hu e3 (rd_ok R2 e1 (o1.fr f2 i2) n1) (rd_ok R2 e2 o2 n2) (s2 O2 _ H2 (fun a z => i1 a (i2 a z)) R2 (f1.trans i1 f2) Da.bl)
theorem st_cmp {o : Cop} {a b : E} {ea eb : Expr} {pos : Pos} (hu : X.A.units + 65 < cLine) (ha : SO G X cf own a ea) (hb : SO G X cf own b eb) (hm : behindInMarks (copOf o) eb = false) : ST G X cf own (.cmp o a b) (.Compare ea [copOf o] [eb] pos) :=
  st_core (fun i z => nomatch z) (pt_cmpR (RO.op _) (RE.pe ea) (RE.pe eb) hm) (fun η d η' h => by
    simp only [ev] at h
    obtain ⟨_, _, h⟩ := bindOk h
    obtain ⟨_, _, h⟩ := bindOk h
    obtain ⟨_, _, h⟩ := bindOk h
    obtain ⟨_, _, h⟩ := bindOk h
    obtain ⟨_, _, h⟩ := bindOk h
    cases h; exact ⟨_, rfl⟩) (cmp_core hu ha hb)
theorem st_isn {a : E} {ea : Expr} {j : Nat} {pos pos' : Pos} (ha : SO G X cf own a ea) : ST G X cf own (.isn a) (.Compare ea [.Is] [.Constant .none j pos'] pos) :=
  st_core (fun i z => nomatch z) (pt_cmpR op_isN (RE.pe ea) pe_non (nomark _)) (fun η d η' h => by
    simp only [ev] at h
    obtain ⟨_, _, h⟩ := bindOk h
    obtain ⟨_, _, h⟩ := bindOk h
    cases h; exact ⟨_, rfl⟩) fun B T O η σ H Q R s => by
    simp only [ev] at s
    refine one ha R s fun x η1 O1 v H1 s1 i1 R1 f1 o1 n1 => ?_
    obtain ⟨d, e1, s1⟩ := okS s1
    refine ⟨rfl, ?_⟩
    rw [non_of (rd_ok R1 e1 o1 n1)]
    exact s1 O1 _ H1 i1 R1 f1 Da.bl
theorem st_notn {a : E} {ea : Expr} {j : Nat} {pos pos' : Pos} (ha : SO G X cf own a ea) : ST G X cf own (.notn a) (.Compare ea [.IsNot] [.Constant .none j pos'] pos) :=
  st_core (fun i z => nomatch z) (pt_cmpR op_notN (RE.pe ea) pe_non (nomark _)) (fun η d η' h => by
    simp only [ev] at h
    obtain ⟨_, _, h⟩ := bindOk h
    obtain ⟨_, _, h⟩ := bindOk h
    cases h; exact ⟨_, rfl⟩) fun B T O η σ H Q R s => by
    simp only [ev] at s
    refine one ha R s fun x η1 O1 v H1 s1 i1 R1 f1 o1 n1 => ?_
    obtain ⟨d, e1, s1⟩ := okS s1
    refine ⟨rfl, ?_⟩
    rw [non_of (rd_ok R1 e1 o1 n1)]
    exact s1 O1 _ H1 i1 R1 f1 Da.bl
theorem st_chain {o o' : Cop} {a b c : E} {ea eb ec : Expr} {pos : Pos} (hu : X.A.units + 65 < cLine) (ha : SE G X cf own a ea) (hb : SE G X cf own b eb) (hc : SE G X cf own c ec) (hm : lastMarks [copOf o, copOf o'] [eb, ec] = false) :
    ST G X cf own (.chain o o' a b c) (.Compare ea [copOf o, copOf o'] [eb, ec] pos) :=
  st_core (fun i z => nomatch z) (pt_chain (RO.op _) (RO.op _) (RE.pe ea) (RE.pe eb) (RE.pe ec) hm) (fun η d η' h => by
    simp only [ev] at h
    obtain ⟨_, _, h⟩ := bindOk h
    obtain ⟨_, _, h⟩ := bindOk h
    obtain ⟨k, _, h⟩ := bindOk h
    cases k with
    | false => cases h; exact ⟨_, rfl⟩
    | true =>
      obtain ⟨_, _, h⟩ := bindOk h
      obtain ⟨_, _, h⟩ := bindOk h
      cases h; exact ⟨_, rfl⟩) fun B T O η σ H Q R s => by
    simp only [ev] at s
    refine one' ha R s fun x η1 O1 v H1 s1 i1 R1 f1 o1 => ?_
    refine one' hb R1 s1 fun y η2 O2 u H2 s2 i2 R2 f2 o2 => ?_
    obtain ⟨k, e3, s2⟩ := okS s2
    refine cmpop_ok hu e3 (.inl (o1.fr f2 i2)) (.inl o2) ⟨k, rfl, ?_⟩
    cases k with
    | false => exact s2 O2 _ H2 (fun a z => i1 a (i2 a z)) R2 (f1.trans i1 f2) Da.bl
    | true =>
      refine one' hc R2 s2 fun w η3 O3 u' H3 s3 i3 R3 f3 o3 => ?_
      obtain ⟨k', e4, s3⟩ := okS s3
      exact cmpop_ok hu e4 (.inl (o2.fr f3 i3)) (.inl o3) (s3 O3 _ H3 (fun a z => i1 a (i2 a (i3 a z))) R3 ((f1.trans i1 f2).trans (fun a z => i1 a (i2 a z)) f3) Da.bl)
/-! ### and, or, not -/
theorem oneB {q : E} {e : Expr} (h : ST G X cf own q e) {B : Base} {T : List (Addr × D)} {O : Addr → Prop} {η : Env} {σ : L2.St} {H : Hp} {γ : Type} {F : Bool × Env → R γ} {QF : γ → Prop} {Q : Bool → Hp → Prop} (R : Rep X.K own B T O η σ H)
    (s : Sat ((evB cf q η).bind F) QF (XOk G X B σ))
    (k : ∀ (b : Bool) (η1 : Env) (O1 : Addr → Prop) (H1 : Hp), Sat (F (b, η1)) QF (XOk G X B σ) → (∀ a, O1 a → O a) → Rep X.K own B T O1 η1 σ H1 → Fr O H H1 → Q b H1) : RT X e σ H Q :=
  h B T O η σ H Q R (Sat.mono (Sat.bind.mp s) (fun r z O1 H1 s1 R1 f1 => k r.1 r.2 O1 H1 z s1 R1 f1) fun _ _ z => z)
theorem isTrue_bool (op : BoolOp) (vs : List Expr) (pos : Pos) (env : PySem.Env) (w : Sem Value) : isTrue (.BoolOp op vs pos) env w = isTrue (.BoolOp op vs pos) env (eval (.BoolOp op vs pos) env) := by
  first
    | rfl
    | (simp only [isTrue])
theorem pw_of {op : BoolOp} {vs : List Expr} {pos : Pos} : PW X (.BoolOp op vs pos) (RT X (.BoolOp op vs pos)) := ⟨fun wh pins s σ H Q I h => by
  rw [isTrue_bool]; exact h pins s I⟩
theorem sat_post {B : Base} {T : List (Addr × D)} {O O1 : Addr → Prop} {σ : L2.St} {H H1 : Hp} {Q : VK} {r : R (D × Env)} (s : Sat r (Post X own B T O σ H Q) (XOk G X B σ)) (i1 : ∀ a, O1 a → O a) (f1 : Fr O H H1) :
    Sat r (Post X own B T O1 σ H1 Q) (XOk G X B σ) := Sat.mono s (fun r z O' v H' i2 R2 f2 d2 => z O' v H' (fun a y => i1 a (i2 a y)) R2 (f1.trans i1 f2) d2) fun _ _ z => z
theorem sat_postB {B : Base} {T : List (Addr × D)} {O O1 : Addr → Prop} {σ : L2.St} {H H1 : Hp} {Q : Bool → Hp → Prop} {r : R (Bool × Env)} (s : Sat r (PostB X own B T O σ H Q) (XOk G X B σ)) (i1 : ∀ a, O1 a → O a) (f1 : Fr O H H1) :
    Sat r (PostB X own B T O1 σ H1 Q) (XOk G X B σ) := Sat.mono s (fun r z O' H' i2 R2 f2 => z O' H' (fun a y => i1 a (i2 a y)) R2 (f1.trans i1 f2)) fun _ _ z => z
theorem sat_postF {B : Base} {T : List (Addr × D)} {O O1 : Addr → Prop} {σ : L2.St} {H H1 : Hp} {Q : VK} {r : R (D × Env)} (s : Sat r (PostF X own B T O σ H Q) (XOk G X B σ)) (i1 : ∀ a, O1 a → O a) (f1 : Fr O H H1) :
    Sat r (PostF X own B T O1 σ H1 Q) (XOk G X B σ) := Sat.mono s (fun r z => by
      obtain ⟨d, η'⟩ := r
      cases d <;> first
        | exact z
        | exact fun O' H2 p xs i2 R2 f2 h l y => z O' H2 p xs (fun a w => i1 a (i2 a w)) R2 (f1.trans i1 f2) h l y) fun _ _ z => z
theorem se_and {a b : E} {ea eb : Expr} {rest : List Expr} {pos : Pos} (ha : SE G X cf own a ea) (hb : SE G X cf own b (.BoolOp .And (eb :: rest) pos)) : SE G X cf own (.and a b) (.BoolOp .And (ea :: eb :: rest) pos) := by
  intro B T O η σ H Q R s
  simp only [ev] at s
  refine RE.of (pe_andT (RE.pe ea) (RE.pe _)) ?_
  refine one' ha R s fun d η1 O1 v H1 s1 i1 R1 f1 o1 => ?_
  obtain ⟨k, e1, s1⟩ := okS s1
  refine ⟨k, tru_of e1 (.inl o1), ?_⟩
  cases k with
  | true => exact hb B T O1 η1 σ H1 Q R1 (sat_post s1 i1 f1)
  | false => exact s1 O1 v H1 i1 R1 f1 o1
theorem se_or {a b : E} {ea eb : Expr} {rest : List Expr} {pos : Pos} (ha : SE G X cf own a ea) (hb : SE G X cf own b (.BoolOp .Or (eb :: rest) pos)) : SE G X cf own (.or a b) (.BoolOp .Or (ea :: eb :: rest) pos) := by
  intro B T O η σ H Q R s
  simp only [ev] at s
  refine RE.of (pe_orT (RE.pe ea) (RE.pe _)) ?_
  refine one' ha R s fun d η1 O1 v H1 s1 i1 R1 f1 o1 => ?_
  obtain ⟨k, e1, s1⟩ := okS s1
  refine ⟨k, tru_of e1 (.inl o1), ?_⟩
  cases k with
  | false => exact hb B T O1 η1 σ H1 Q R1 (sat_post s1 i1 f1)
  | true => exact s1 O1 v H1 i1 R1 f1 o1
theorem se_one {op : BoolOp} {b : E} {eb : Expr} {pos : Pos} (hb : SE G X cf own b eb) : SE G X cf own b (.BoolOp op [eb] pos) := fun B T O η σ H Q R s =>
  RE.of (pe_one (RE.pe eb)) (hb B T O η σ H Q R s)
/-- a list made anew, or another one -/
theorem sf_or {a b : E} {ea eb : Expr} {pos : Pos} (ha : SF G X cf own a ea) (la : ∀ η d η', ev cf a η = .ok (d, η') → ∃ ds, d = .lst ds) (hb : SF G X cf own b eb) : SF G X cf own (.or a b) (.BoolOp .Or [ea, eb] pos) := by
  intro B T O η σ H Q R s
  simp only [ev] at s
  refine RE.of (pe_orT (RE.pe ea) (RE.pe _)) ?_
  refine ha B T O η σ H _ R ?_
  have s := Sat.bind.mp s
  cases r : ev cf a η with
  | er c p => rw [r] at s; exact s
  | st => rw [r] at s; exact s
  | ok y =>
    obtain ⟨d, η1⟩ := y
    obtain ⟨ds, rfl⟩ := la η d η1 r
    rw [r] at s
    obtain ⟨k, e1, s1⟩ := okS (show Sat ((noer (truth (.lst ds))).bind _) _ _ from s)
    cases e1
    intro O1 H1 p xs i1 R1 f1 hp hl hd
    have l := hd.length
    refine ⟨!xs.isEmpty, .inl ⟨xs, SqL.of upd_same, rfl⟩, ?_⟩
    have e2 : (!xs.isEmpty) = !ds.isEmpty := by cases xs <;> cases ds <;> first | rfl | cases l
    rw [e2]
    cases c : (!ds.isEmpty) with
    | true =>
      rw [c] at s1
      exact s1 O1 H1 p xs i1 R1 f1 hp hl hd
    | false =>
      rw [c] at s1
      exact RE.of (pe_one (RE.pe eb)) (hb B T O1 η1 σ _ Q (R1.same (Same.new hp)) (sat_postF s1 i1 (f1.trans i1 (Fr.new hp))))
theorem se_not {a : E} {ea : Expr} {pos : Pos} (ha : SO G X cf own a ea) : SE G X cf own (.not a) (.UnaryOp .Not ea pos) := by
  intro B T O η σ H Q R s
  simp only [ev] at s
  refine RE.of (pe_notT (RE.pe ea)) ?_
  refine one ha R s fun x η1 O1 v H1 s1 i1 R1 f1 o1 n1 => ?_
  obtain ⟨d, e1, s1⟩ := okS s1
  obtain ⟨k, e2, s1⟩ := okS s1
  exact ⟨k, tru_of e2 (rd_ok R1 e1 o1 n1), s1 O1 _ H1 i1 R1 f1 Da.bl⟩
theorem st_not {a : E} {ea : Expr} {pos : Pos} (ha : ST G X cf own a ea) : ST G X cf own (.not a) (.UnaryOp .Not ea pos) := by
  intro B T O η σ H Q R s
  rw [evB_np (show ∀ i, E.not a ≠ .p i from fun i z => nomatch z)] at s
  simp only [ev] at s
  refine RT.of (pt_not (RT.pt ea)) ?_
  show RT X ea σ H fun c H1 => Q (!c) H1
  refine ha B T O η σ H _ R ?_
  have e : (((opd a (ev cf a) η).bind fun x => (noer (rd x.1 x.2)).bind fun d => (noer (truth d)).bind fun k => Py.R.ok (D.bl (!k), x.2)).bind fun x => (noer (truth x.1)).bind fun k => Py.R.ok (k, x.2)) = (evB cf a η).bind fun (k, η1) => .ok (!k, η1) := by
    unfold evB
    cases opd a (ev cf a) η with
    | er c p => rfl
    | st => rfl
    | ok y =>
      obtain ⟨x, η1⟩ := y
      show ((noer (rd x η1)).bind _).bind _ = ((noer (rd x η1)).bind _).bind _
      cases rd x η1 with
      | er c p => rfl
      | st => rfl
      | ok d =>
        show ((noer (truth d)).bind _).bind _ = ((noer (truth d)).bind _).bind _
        cases truth d <;> rfl
  rw [e] at s
  exact Sat.mono (Sat.bind.mp s) (fun r z O' H' i1 R1 f1 => z O' H' i1 R1 f1) fun _ _ z => z
theorem evB_and {a b : E} {η : Env} {QF : Bool × Env → Prop} {EF : Nat → Option D → Prop} (na : ∀ i, a ≠ .p i) (nb : ∀ i, b ≠ .p i) : Sat (evB cf (.and a b) η) QF EF = Sat ((evB cf a η).bind fun (k, η1) => if k then evB cf b η1 else .ok (false, η1)) QF EF := by
  rw [evB_np (show ∀ i, E.and a b ≠ .p i from fun i z => nomatch z), evB_np na]
  simp only [ev]
  cases ev cf a η with
  | er c p => rfl
  | st => rfl
  | ok y =>
    obtain ⟨d, η1⟩ := y
    show Sat (((noer (truth d)).bind _).bind _) _ _ = Sat (((noer (truth d)).bind _).bind _) _ _
    cases t : truth d with
    | er c p => rfl
    | st => rfl
    | ok k =>
      cases k with
      | true => show Sat ((ev cf b η1).bind _) _ _ = Sat (evB cf b η1) _ _; rw [evB_np nb]
      | false => show Sat ((noer (truth d)).bind _) _ _ = _; rw [t]; rfl
theorem evB_or {a b : E} {η : Env} {QF : Bool × Env → Prop} {EF : Nat → Option D → Prop} (na : ∀ i, a ≠ .p i) (nb : ∀ i, b ≠ .p i) : Sat (evB cf (.or a b) η) QF EF = Sat ((evB cf a η).bind fun (k, η1) => if k then .ok (true, η1) else evB cf b η1) QF EF := by
  rw [evB_np (show ∀ i, E.or a b ≠ .p i from fun i z => nomatch z), evB_np na]
  simp only [ev]
  cases ev cf a η with
  | er c p => rfl
  | st => rfl
  | ok y =>
    obtain ⟨d, η1⟩ := y
    show Sat (((noer (truth d)).bind _).bind _) _ _ = Sat (((noer (truth d)).bind _).bind _) _ _
    cases t : truth d with
    | er c p => rfl
    | st => rfl
    | ok k =>
      cases k with
      | false => show Sat ((ev cf b η1).bind _) _ _ = Sat (evB cf b η1) _ _; rw [evB_np nb]
      | true => show Sat ((noer (truth d)).bind _) _ _ = _; rw [t]; rfl
theorem st_and {a b : E} {ea eb : Expr} {rest : List Expr} {pos : Pos} (na : ∀ i, a ≠ .p i) (nb : ∀ i, b ≠ .p i) (ha : ST G X cf own a ea) (hb : ST G X cf own b (.BoolOp .And (eb :: rest) pos)) : ST G X cf own (.and a b) (.BoolOp .And (ea :: eb :: rest) pos) := by
  intro B T O η σ H Q R s
  rw [evB_and na nb] at s
  refine RT.of (pw_and (RT.pt ea) pw_of).pt ?_
  refine oneB ha R s fun k η1 O1 H1 s1 i1 R1 f1 => ?_
  cases k with
  | true => exact hb B T O1 η1 σ H1 Q R1 (sat_postB s1 i1 f1)
  | false => exact s1 O1 H1 i1 R1 f1
theorem st_or {a b : E} {ea eb : Expr} {rest : List Expr} {pos : Pos} (na : ∀ i, a ≠ .p i) (nb : ∀ i, b ≠ .p i) (ha : ST G X cf own a ea) (hb : ST G X cf own b (.BoolOp .Or (eb :: rest) pos)) : ST G X cf own (.or a b) (.BoolOp .Or (ea :: eb :: rest) pos) := by
  intro B T O η σ H Q R s
  rw [evB_or na nb] at s
  refine RT.of (pw_or (RT.pt ea) pw_of).pt ?_
  refine oneB ha R s fun k η1 O1 H1 s1 i1 R1 f1 => ?_
  cases k with
  | false => exact hb B T O1 η1 σ H1 Q R1 (sat_postB s1 i1 f1)
  | true => exact s1 O1 H1 i1 R1 f1
theorem st_one_and {b : E} {eb : Expr} {pos : Pos} (hb : ST G X cf own b eb) : ST G X cf own b (.BoolOp .And [eb] pos) := fun B T O η σ H Q R s =>
  RT.of (pw_and1 (RT.pt eb)).pt (hb B T O η σ H Q R s)
theorem st_one_or {b : E} {eb : Expr} {pos : Pos} (hb : ST G X cf own b eb) : ST G X cf own b (.BoolOp .Or [eb] pos) := fun B T O η σ H Q R s =>
  RT.of (pw_or1 (RT.pt eb)).pt (hb B T O η σ H Q R s)
theorem se_ife {c a b : E} {ec ea eb : Expr} {pos : Pos} (hc : ST G X cf own c ec) (ha : SE G X cf own a ea) (hb : SE G X cf own b eb) : SE G X cf own (.ife c a b) (.IfExp ec ea eb pos) := by
  intro B T O η σ H Q R s
  have e : ev cf (.ife c a b) η = (evB cf c η).bind fun (k, η1) => if k then ev cf a η1 else ev cf b η1 := by
    simp only [ev]
    unfold evB
    cases opd c (ev cf c) η with
    | er c p => rfl
    | st => rfl
    | ok y =>
      obtain ⟨x, η1⟩ := y
      show (noer (rd x η1)).bind _ = ((noer (rd x η1)).bind _).bind _
      cases rd x η1 with
      | er c p => rfl
      | st => rfl
      | ok d =>
        show (noer (truth d)).bind _ = ((noer (truth d)).bind _).bind _
        cases truth d <;> rfl
  rw [e] at s
  refine RE.of (pe_ifExp (RT.pt ec) (RE.pe ea) (RE.pe eb)) ?_
  refine oneB hc R s fun k η1 O1 H1 s1 i1 R1 f1 => ?_
  cases k with
  | true => exact ha B T O1 η1 σ H1 Q R1 (sat_post s1 i1 f1)
  | false => exact hb B T O1 η1 σ H1 Q R1 (sat_post s1 i1 f1)
end
end Py
set_option Elab.async false
set_option linter.all false
set_option maxRecDepth 100000
set_option maxHeartbeats 1000000
namespace Py
open PySem PySem.Spec PyProof.Rows L2
/-! ### lists of whole numbers -/
theorem ins_perm (x : Int) : ∀ xs, (isort.ins x xs).Perm (x :: xs)
  | [] => .refl _
  | y :: ys => by
    unfold isort.ins
    split
    · exact .refl _
    · exact (List.Perm.cons y (ins_perm x ys)).trans (List.Perm.swap x y ys)
theorem isort_perm : ∀ xs, (isort xs).Perm xs
  | [] => .refl _
  | x :: xs => (ins_perm x (isort xs)).trans (List.Perm.cons x (isort_perm xs))
theorem ins_sorted (x : Int) : ∀ xs, xs.Pairwise (· ≤ ·) → (isort.ins x xs).Pairwise (· ≤ ·)
  | [], _ => by simp [isort.ins]
  | y :: ys, h => by
    unfold isort.ins
    have h' := List.pairwise_cons.mp h
    split
    · rename_i c
      refine List.pairwise_cons.mpr ⟨fun z hz => ?_, h⟩
      rcases List.mem_cons.mp hz with e | e
      · subst e; exact c
      · exact Int.le_trans c (h'.1 z e)
    · rename_i c
      refine List.pairwise_cons.mpr ⟨fun z hz => ?_, ins_sorted x ys h'.2⟩
      rcases List.mem_cons.mp ((ins_perm x ys).mem_iff.mp hz) with e | e
      · subst e; omega
      · exact h'.1 z e
theorem isort_sorted : ∀ xs, (isort xs).Pairwise (· ≤ ·)
  | [] => .nil
  | x :: xs => ins_sorted x _ (isort_sorted xs)
theorem isort_unique {xs ys : List Int} (p : ys.Perm xs) (s : ys.Pairwise (· ≤ ·)) : ys = isort xs :=
  (p.trans (isort_perm xs).symm).eq_of_pairwise (fun a b _ _ h1 h2 => by omega) s (isort_sorted xs)
theorem uniq_mem : ∀ (xs : List Int) (k : Int), k ∈ uniq xs ↔ k ∈ xs
  | [], k => by simp [uniq]
  | [x], k => by simp [uniq]
  | x :: y :: xs, k => by
    unfold uniq
    split
    · rename_i e
      subst e
      rw [uniq_mem (x :: xs) k]
      simp
    · rw [List.mem_cons, uniq_mem (y :: xs) k, List.mem_cons (a := k) (b := x)]
theorem uniq_sorted : ∀ xs : List Int, xs.Pairwise (· ≤ ·) → (uniq xs).Pairwise (· < ·)
  | [], _ => by simp [uniq]
  | [x], _ => by simp [uniq]
  | x :: y :: xs, h => by
    have h' := List.pairwise_cons.mp h
    unfold uniq
    split
    · exact uniq_sorted (y :: xs) h'.2
    · rename_i n
      refine List.pairwise_cons.mpr ⟨fun z hz => ?_, uniq_sorted (y :: xs) h'.2⟩
      have hz' := (uniq_mem (y :: xs) z).mp hz
      have h1 := h'.1 y (List.mem_cons_self ..)
      have h2 := List.pairwise_cons.mp h'.2
      rcases List.mem_cons.mp hz' with e | e
      · subst e; omega
      · have := h2.1 z e; omega
theorem strict_unique {xs ys : List Int} (s : xs.Pairwise (· < ·)) (t : ys.Pairwise (· < ·)) (h : ∀ k, k ∈ xs ↔ k ∈ ys) : xs = ys := by
  have n1 : xs.Nodup := s.imp fun q => by omega
  have n2 : ys.Nodup := t.imp fun q => by omega
  have p : xs.Perm ys := (List.perm_ext_iff_of_nodup n1 n2).mpr h
  exact p.eq_of_pairwise (fun a b _ _ h1 h2 => by omega) s t
theorem sset_unique {xs ys : List Int} (s : ys.Pairwise (· < ·)) (h : ∀ k, k ∈ ys ↔ k ∈ xs) : ys = uniq (isort xs) :=
  strict_unique s (uniq_sorted _ (isort_sorted xs)) fun k => (h k).trans ((isort_perm xs).mem_iff.symm.trans (uniq_mem _ k).symm)
section
variable {K : PySem.W.Frag} {H : Hp} {O : Addr → Prop}
theorem ints_of : ∀ {ds : List D} {ns : List Int} {vs : List V}, intsOf ds = some ns → DaL K H O ds vs → vs = ns.map V.int ∧ ds = ns.map D.int
  | [], ns, vs, h, q => by cases h; simp only [DaL] at q; subst q; exact ⟨rfl, rfl⟩
  | .int i :: ds, ns, vs, h, q => by
    have h : (intsOf ds).map (i :: ·) = some ns := h
    simp only [Option.map_eq_some_iff] at h
    obtain ⟨ms, h1, rfl⟩ := h
    simp only [DaL] at q
    obtain ⟨v, us, rfl, z1, z2⟩ := q
    have e := z1.int_of
    subst e
    obtain ⟨e1, e2⟩ := ints_of h1 z2
    subst e1 e2
    exact ⟨rfl, rfl⟩
  | .non :: ds, ns, vs, h, q => by cases h
  | .bl _ :: ds, ns, vs, h, q => by cases h
  | .str _ :: ds, ns, vs, h, q => by cases h
  | .tup _ :: ds, ns, vs, h, q => by cases h
  | .lst _ :: ds, ns, vs, h, q => by cases h
  | .rng _ _ :: ds, ns, vs, h, q => by cases h
  | .fz _ :: ds, ns, vs, h, q => by cases h
  | .dc _ _ :: ds, ns, vs, h, q => by cases h
  | .er _ _ _ :: ds, ns, vs, h, q => by cases h
theorem bls_of : ∀ {ds : List D} {ns : List Bool} {vs : List V}, blsOf ds = some ns → DaL K H O ds vs → vs = ns.map V.bl
  | [], ns, vs, h, q => by cases h; simp only [DaL] at q; subst q; rfl
  | .bl i :: ds, ns, vs, h, q => by
    have h : (blsOf ds).map (i :: ·) = some ns := h
    simp only [Option.map_eq_some_iff] at h
    obtain ⟨ms, h1, rfl⟩ := h
    simp only [DaL] at q
    obtain ⟨v, us, rfl, z1, z2⟩ := q
    simp only [Da] at z1
    subst z1
    rw [bls_of h1 z2]; rfl
  | .non :: ds, ns, vs, h, q => by cases h
  | .int _ :: ds, ns, vs, h, q => by cases h
  | .str _ :: ds, ns, vs, h, q => by cases h
  | .tup _ :: ds, ns, vs, h, q => by cases h
  | .lst _ :: ds, ns, vs, h, q => by cases h
  | .rng _ _ :: ds, ns, vs, h, q => by cases h
  | .fz _ :: ds, ns, vs, h, q => by cases h
  | .dc _ _ :: ds, ns, vs, h, q => by cases h
  | .er _ _ _ :: ds, ns, vs, h, q => by cases h
end
section
variable {G : Exi} {X : Cx} {cf : CF} {own : List Nat}
/-- the reading of a call by values -/
def RC (X : Cx) (f : Value) : List V → Hp → VK → Prop := fun xs H Q => ∀ (pins : List (Addr × Obj)) (s : Shared) (σ : L2.St) (us : List Value), Inv X pins σ H s → Vals xs us → wpAny (model X.prog X.w) X.A (call f us) (EP X pins σ Q) X.xe s
theorem RC.call (f : Value) : CallR X f (RC X f) := fun pins s σ H xs us Q I r h => h pins s σ us I r
theorem RC.of {f : Value} {r : List V → Hp → VK → Prop} (h : CallR X f r) {xs : List V} {H : Hp} {Q : VK} (q : r xs H Q) : RC X f xs H Q := fun pins s σ us I rv => h pins s σ H xs us Q I rv q
/-- set(t), t a tuple of whole numbers: the members, how many -/
def rSetT (w : World) : List V → Hp → VK → Prop := fun xs H Q => ∃ (p : Addr) (ns : List Int), xs = [.ref p] ∧ H p = some (.tup (ns.map V.int)) ∧ ns.length < 64 ∧
  ∀ (q : Addr) (S : Int → Bool) (c : Nat), H q = none → (∀ k, S k = true ↔ k ∈ ns) → c = (uniq (isort ns)).length → Q (.ref q) (upd H q (SetO w q S c))
theorem cr_setT (hc : X.calm = true) : CallR X (.type "set") (rSetT X.w) := by
  rintro pins s σ H xs us Q I r ⟨p, ns, rfl, hp, hl, q⟩
  cases r with
  | cons r rr =>
    cases rr
    cases r
    obtain ⟨its, rv, pt, hz⟩ := I.tuple (SqT.of hp)
    have hi : IntsAre its.toArray.toList ns := by simpa using RZ.intsAre_vals rv
    refine call_set_tupI ns (I.ok.hd hc) (show s.heap.IsTuple p its.toArray from pt) hi (by unfold scanBound; omega) fun h' tk c R1 hcn k => ?_
    have hfree := I.hok.fresh (Nat.le_refl s.heap.objs.size)
    have J : Inv X pins σ (upd H s.heap.objs.size (SetO X.w s.heap.objs.size (fun j => decide (j ∈ ns)) c)) { s with heap := h', toks := tk } := I.laid k (Nat.le_refl _) (setO_new R1)
    refine ⟨.ref s.heap.objs.size, _, J, rfl, q _ _ c hfree (fun k => by simp) ?_⟩
    obtain ⟨o, es, ep, t, _, _, _, _, nd, hS, _, _, hn, _⟩ := R1
    have e1 : (es.toList.map keyOf).length = c := by rw [List.length_map, ← hn]; simp
    have e2 : (es.toList.map keyOf).Perm (uniq (isort ns)) := by
      refine (List.perm_ext_iff_of_nodup nd ?_).mpr fun k => ?_
      · exact (uniq_sorted _ (isort_sorted ns)).imp fun q => by omega
      · have z := hS k
        rw [decide_eq_true_eq] at z
        exact z.symm.trans ((isort_perm ns).mem_iff.symm.trans (uniq_mem _ k).symm)
    rw [← e1, e2.length_eq]
def rLenS (w : World) : List V → Hp → VK → Prop := fun xs H Q => ∃ (p : Addr) (S : Int → Bool) (c : Nat), xs = [.ref p] ∧ H p = some (SetO w p S c) ∧ c < 1000 ∧ Q (.int c) H
theorem cr_lenS : CallR X (.builtin "len") (rLenS X.w) := by
  rintro pins s σ H xs us Q I r ⟨p, S, c, rfl, hp, hl, q⟩
  cases r with
  | cons r rr =>
    cases rr
    cases r
    obtain ⟨o, es, ep, t, ho, hex, hd, _, _, _, _, hf, hn, _⟩ := setO_get I hp
    exact call_len_set ho hex hd hf (by rw [hn]; omega) ⟨.int c, H, I.tok _, ⟨_, by rw [hn]⟩, q⟩
end
end Py
set_option Elab.async false
set_option linter.all false
set_option maxRecDepth 100000
set_option maxHeartbeats 1000000
namespace Py
open PySem PySem.Spec PyProof.Rows L2
theorem minI_spec : ∀ (ns : List Int) (n : Int), minI n ns ∈ n :: ns ∧ ∀ x ∈ n :: ns, minI n ns ≤ x
  | [], n => ⟨List.mem_singleton.mpr rfl, fun x hx => by rw [List.mem_singleton.mp hx]; exact Int.le_refl _⟩
  | y :: ys, n => by
    obtain ⟨h1, h2⟩ := minI_spec ys (if y < n then y else n)
    have e : minI n (y :: ys) = minI (if y < n then y else n) ys := rfl
    rw [e]
    refine ⟨?_, fun x hx => ?_⟩
    · rcases List.mem_cons.mp h1 with h | h
      · rw [h]; split <;> simp
      · exact List.mem_cons_of_mem _ (List.mem_cons_of_mem _ h)
    · have h0 := h2 _ (List.mem_cons_self ..)
      have hz : (if y < n then y else n) ≤ n ∧ (if y < n then y else n) ≤ y := by split <;> omega
      generalize (if y < n then y else n) = z at *
      rcases List.mem_cons.mp hx with h | h
      · rw [h]; omega
      · rcases List.mem_cons.mp h with h | h
        · rw [h]; omega
        · exact h2 x (List.mem_cons_of_mem _ h)
theorem maxI_spec : ∀ (ns : List Int) (n : Int), maxI n ns ∈ n :: ns ∧ ∀ x ∈ n :: ns, x ≤ maxI n ns
  | [], n => ⟨List.mem_singleton.mpr rfl, fun x hx => by rw [List.mem_singleton.mp hx]; exact Int.le_refl _⟩
  | y :: ys, n => by
    obtain ⟨h1, h2⟩ := maxI_spec ys (if n < y then y else n)
    have e : maxI n (y :: ys) = maxI (if n < y then y else n) ys := rfl
    rw [e]
    refine ⟨?_, fun x hx => ?_⟩
    · rcases List.mem_cons.mp h1 with h | h
      · rw [h]; split <;> simp
      · exact List.mem_cons_of_mem _ (List.mem_cons_of_mem _ h)
    · have h0 := h2 _ (List.mem_cons_self ..)
      have hz : n ≤ (if n < y then y else n) ∧ y ≤ (if n < y then y else n) := by split <;> omega
      generalize (if n < y then y else n) = z at *
      rcases List.mem_cons.mp hx with h | h
      · rw [h]; omega
      · rcases List.mem_cons.mp h with h | h
        · rw [h]; omega
        · exact h2 x (List.mem_cons_of_mem _ h)
theorem minI_eq {n m : Int} {ns : List Int} (h : m ∈ n :: ns) (hl : ∀ y ∈ n :: ns, m ≤ y) : m = minI n ns := by
  obtain ⟨h1, h2⟩ := minI_spec ns n
  exact Int.le_antisymm (hl _ h1) (h2 _ h)
theorem maxI_eq {n m : Int} {ns : List Int} (h : m ∈ n :: ns) (hl : ∀ y ∈ n :: ns, y ≤ m) : m = maxI n ns := by
  obtain ⟨h1, h2⟩ := maxI_spec ns n
  exact Int.le_antisymm (h2 _ h) (hl _ h1)
def f1Name : F1 → Str
  | .len => "len"
  | .tuple => "tuple"
  | .list => "list"
  | .sorted => "sorted"
  | .int => "int"
  | .abs => "abs"
  | .all => "all"
  | .any => "any"
  | .sum => "sum"
  | .str => "str"
  | .sset => "sorted"
  | .lset => "len"
  | .min1 => "min"
  | .max1 => "max"
def f1Val : F1 → Value
  | .len => .builtin "len"
  | .tuple => .type "tuple"
  | .list => .type "list"
  | .sorted => .builtin "sorted"
  | .int => .type "int"
  | .abs => .builtin "abs"
  | .all => .builtin "all"
  | .any => .builtin "any"
  | .sum => .builtin "sum"
  | .str => .type "str"
  | .sset => .builtin "sorted"
  | .lset => .builtin "len"
  | .min1 => .builtin "min"
  | .max1 => .builtin "max"
def one1 (f : F1) : Bool := match f with
  | .sset => false
  | .lset => false
  | _ => true
section
variable {G : Exi} {X : Cx} {cf : CF} {own : List Nat}
theorem pe_f1 {f : F1} {e : Expr} {t : TA} {p pos : Pos} (hg : Gl X (f1Name f)) (hm : X.mg (f1Name f) = none) (ha : PA X [e] t) (hst : starEach [e] X.env = (false, eval e X.env) :: starEach [] X.env) :
    PE X (.Call (.Name (f1Name f) p) [e] [] pos) (tCB (RC X (f1Val f)) t) := by
  cases f
  · exact pe_callB (RC.call _) hg hm boot_len ha (by decide) (by decide) hst rfl
  · exact pe_callTy (RC.call _) hg hm boot_tuple ha (by decide) (by decide) hst rfl
  · exact pe_callTy (RC.call _) hg hm boot_list ha (by decide) (by decide) hst rfl
  · exact pe_callB (RC.call _) hg hm boot_sorted ha (by decide) (by decide) hst rfl
  · exact pe_callTy (RC.call _) hg hm boot_int ha (by decide) (by decide) hst rfl
  · exact pe_callB (RC.call _) hg hm boot_abs ha (by decide) (by decide) hst rfl
  · exact pe_callB (RC.call _) hg hm boot_all ha (by decide) (by decide) hst rfl
  · exact pe_callB (RC.call _) hg hm boot_any ha (by decide) (by decide) hst rfl
  · exact pe_callB (RC.call _) hg hm boot_sum ha (by decide) (by decide) hst rfl
  · exact pe_callB (RC.call _) hg hm boot_sorted ha (by decide) (by decide) hst rfl
  · exact pe_callB (RC.call _) hg hm boot_len ha (by decide) (by decide) hst rfl
  · exact pe_callTy (RC.call _) hg hm boot_str ha (by decide) (by decide) hst rfl
  · exact pe_callB (RC.call _) hg hm boot_min ha (by decide) (by decide) hst rfl
  · exact pe_callB (RC.call _) hg hm boot_max ha (by decide) (by decide) hst rfl
section
variable {H : Hp} {O : Addr → Prop} {Q : VK} {x : V} {d z : D}
theorem f1_ok {f : F1} (hc : X.calm = true) (ho : one1 f = true) (h : f1D f d = .ok z) (hx : DT X.K H O d x)
    (q1 : ∀ v, Da X.K H O z v → Q v H)
    (q2 : ∀ p xs ds, H p = none → z = .lst ds → xs.length ≤ LIM → DaL X.K H O ds xs → Q (.ref p) (upd H p (.lst xs)))
    (q3 : ∀ p xs ds, H p = none → z = .tup ds → xs.length ≤ LIM → DaL X.K H O ds xs → Q (.ref p) (upd H p (.tup xs))) : RC X (f1Val f) [x] H Q := by
  unfold f1D at h
  split at h
  · cases h
    obtain ⟨a, xs, rfl, h1, _, h3⟩ := hx.lst
    rw [← h3.length] at q1
    exact RC.of call_len ⟨_, _, rfl, .inl ⟨xs, SqL.of h1, rfl⟩, q1 _ Da.int⟩
  · cases h
    obtain ⟨a, xs, rfl, h1, _, _, h3⟩ := (hx.other fun _ z => nomatch z).tup_of
    rw [← h3.length] at q1
    exact RC.of call_len ⟨_, _, rfl, .inr ⟨xs, SqT.of h1, rfl⟩, q1 _ Da.int⟩
  · cases h
    obtain ⟨a, xs, rfl, h1, h2, hk, h3⟩ := hx.dc
    have l := h3.length
    refine RC.of call_lenD ⟨a, _, rfl, h1, ?_⟩
    rw [kvz_len (by omega), l, ← hk]
    exact q1 _ Da.int
  · cases h
    obtain ⟨a, xs, rfl, h1, h2, h3⟩ := hx.lst
    exact RC.of call_tuple_of ⟨a, xs, rfl, .inl ⟨SqL.of h1, fun l hl => q3 l xs _ hl rfl h2 h3⟩⟩
  · cases h
    have hx := hx.other fun _ z => nomatch z
    obtain ⟨a, xs, rfl, h1, _, h2, h3⟩ := hx.tup_of
    exact RC.of call_tuple_of ⟨a, xs, rfl, .inr ⟨SqT.of h1, q1 _ hx⟩⟩
  · cases h
    obtain ⟨a, xs, rfl, h1, h2, h3⟩ := hx.lst
    exact RC.of call_list_of ⟨a, xs, rfl, .inl (SqL.of h1), fun l hl => q2 l xs _ hl rfl h2 h3⟩
  · cases h
    obtain ⟨a, xs, rfl, h1, _, h2, h3⟩ := (hx.other fun _ z => nomatch z).tup_of
    exact RC.of call_list_of ⟨a, xs, rfl, .inr (SqT.of h1), fun l hl => q2 l xs _ hl rfl h2 h3⟩
  · cases h
    obtain ⟨a, xs, rfl, h1, h2, hk, h3⟩ := hx.dc
    have l := h3.length
    refine RC.of (call_list_dK hc) ⟨a, _, rfl, h1, fun p hp => ?_⟩
    rw [kvz_keys (by omega)]
    exact q2 p _ _ hp rfl (by rw [List.length_map]; omega) (DaL.ints _)
  · split at h
    · rename_i ns e
      cases h
      obtain ⟨a, xs, rfl, h1, h2, h3⟩ := hx.lst
      obtain ⟨e1, e2⟩ := ints_of e h3
      subst e1
      rw [List.length_map] at h2
      refine RC.of cr_sortedI ⟨a, ns, rfl, SqL.of h1, fun ns' p hp hs hn => ?_⟩
      have e3 := isort_unique hp hs
      subst e3
      refine q2 p _ _ hn rfl ?_ (DaL.ints _)
      rw [List.length_map, (isort_perm ns).length_eq]; exact h2
    · cases h
  · split at h
    · rename_i c
      cases h
      obtain ⟨a, xs, rfl, h1, h2, hk, h3⟩ := hx.dc
      have l := h3.length
      refine RC.of (call_sortedDI hc) ⟨a, _, _, rfl, .inl h1, kvz_fst (by omega), c, fun ns' p hp hs hn => ?_⟩
      have e3 := isort_unique hp hs
      subst e3
      exact q2 p _ _ hn rfl (by rw [List.length_map, (isort_perm _).length_eq]; have : LIM = 16777216 := rfl; omega) (DaL.ints _)
    · cases h
  · cases ho
  · cases ho
  · cases h
    have e := (hx.other fun _ z => nomatch z).int_of
    subst e
    exact RC.of call_int1 (.inl ⟨_, rfl, q1 _ Da.int⟩)
  · cases h
    have e := hx.other fun _ z => nomatch z
    simp only [Da] at e
    subst e
    exact RC.of call_int1 (.inr ⟨_, rfl, q1 _ Da.int⟩)
  · cases h
    have e := (hx.other fun _ z => nomatch z).int_of
    subst e
    exact RC.of call_abs ⟨_, rfl, q1 _ Da.int⟩
  · split at h
    · rename_i bs e
      cases h
      obtain ⟨a, xs, rfl, h1, _, h3⟩ := hx.lst
      have e1 := bls_of e h3
      subst e1
      exact RC.of (cr_all hc) ⟨a, bs, rfl, SqL.of h1, q1 _ Da.bl⟩
    · cases h
  · split at h
    · rename_i bs e
      cases h
      obtain ⟨a, xs, rfl, h1, _, h3⟩ := hx.lst
      have e1 := bls_of e h3
      subst e1
      exact RC.of (cr_any hc) ⟨a, bs, rfl, SqL.of h1, q1 _ Da.bl⟩
    · cases h
  · split at h
    · rename_i ns e
      cases h
      obtain ⟨a, xs, rfl, h1, _, h3⟩ := hx.lst
      have e1 := (ints_of e h3).1
      subst e1
      exact RC.of (cr_sum hc) ⟨a, ns, rfl, SqL.of h1, q1 _ Da.int⟩
    · cases h
  · split at h
    · rename_i c
      cases h
      have e := (hx.other fun _ z => nomatch z).int_of
      subst e
      exact RC.of call_str_int ⟨_, rfl, c, q1 _ Da.str⟩
    · cases h
  · split at h
    · rename_i n ns e
      cases h
      obtain ⟨a, xs, rfl, h1, _, h3⟩ := hx.lst
      have e1 := (ints_of e h3).1
      subst e1
      exact RC.of (cr_min hc) ⟨a, n :: ns, rfl, SqL.of h1, Nat.succ_pos _, fun m hm hle => by
        rw [minI_eq hm hle]
        exact q1 _ Da.int⟩
    · cases h
  · split at h
    · rename_i n ns e
      cases h
      obtain ⟨a, xs, rfl, h1, _, h3⟩ := hx.lst
      have e1 := (ints_of e h3).1
      subst e1
      exact RC.of (cr_max hc) ⟨a, n :: ns, rfl, SqL.of h1, Nat.succ_pos _, fun m hm hle => by
        rw [maxI_eq hm hle]
        exact q1 _ Da.int⟩
    · cases h
  · cases h
end
/-- f(x), f a built-in -/
theorem ev_f1 {f : F1} {a : E} {η : Env} (hr : ∀ b, a ≠ .rg1 b) : ev cf (.f1 f a) η = (opd a (ev cf a) η).bind fun x => (noer (rd x.1 x.2)).bind fun d => (noer (f1D f d)).bind fun z => .ok (z, x.2) := by
  cases a <;> first | (exact absurd rfl (hr _)) | (simp only [ev])
theorem se_f1 {f : F1} {a : E} {ea : Expr} {p pos : Pos} (hc : X.calm = true) (ho : one1 f = true) (ha : SO G X cf own a ea) (hr : ∀ b, a ≠ .rg1 b)
    (hg : Gl X (f1Name f)) (hm : X.mg (f1Name f) = none) (hst : starEach [ea] X.env = (false, eval ea X.env) :: starEach [] X.env) : SE G X cf own (.f1 f a) (.Call (.Name (f1Name f) p) [ea] [] pos) := by
  intro B T O η σ H Q R s
  rw [ev_f1 hr] at s
  refine RE.of (pe_f1 hg hm (pa_cons (RE.pe ea) pa_nil hst) hst) ?_
  show RE X ea σ H fun v H1 => RC X (f1Val f) [v] H1 Q
  refine one ha R s fun x η1 O1 v H1 s1 i1 R1 f1 o1 n1 => ?_
  obtain ⟨d, e1, s1⟩ := okS s1
  obtain ⟨z, e2, s1⟩ := okS s1
  exact f1_ok hc ho e2 (rd_ok R1 e1 o1 n1) (fun v z => s1 O1 v H1 i1 R1 f1 z) (fun p xs ds hp e l z => by subst e; exact s1 O1 _ _ i1 (R1.same (Same.new hp)) (f1.trans i1 (Fr.new hp)) (R1.newL hp l z))
    (fun p xs ds hp e l z => by subst e; exact s1 O1 _ _ i1 (R1.same (Same.new hp)) (f1.trans i1 (Fr.new hp)) (R1.newT hp l z))
theorem f1_list {d z : D} (h : f1D .list d = .ok z) : ∃ xs, (d = .lst xs ∨ d = .tup xs ∨ ∃ ks ds, d = .dc ks ds ∧ xs = ks.map .int) ∧ z = .lst xs := by
  cases d <;> first
    | (cases h; exact ⟨_, .inl rfl, rfl⟩)
    | (cases h; exact ⟨_, .inr (.inl rfl), rfl⟩)
    | (cases h; exact ⟨_, .inr (.inr ⟨_, _, rfl, rfl⟩), rfl⟩)
    | cases h
theorem f1_sorted {d z : D} (h : f1D .sorted d = .ok z) : ∃ ns, ((∃ xs, d = .lst xs ∧ intsOf xs = some ns) ∨ ∃ ds, d = .dc ns ds ∧ ns.length < 64) ∧ z = .lst ((isort ns).map .int) := by
  cases d with
  | lst xs =>
    simp only [f1D] at h
    split at h
    · rename_i ns e
      cases h; exact ⟨ns, .inl ⟨xs, rfl, e⟩, rfl⟩
    · cases h
  | dc ks ds =>
    simp only [f1D] at h
    split at h
    · rename_i c
      cases h; exact ⟨ks, .inr ⟨ds, rfl, c⟩, rfl⟩
    · cases h
  | _ => cases h
/-- list(x), sorted(x): a list made anew -/
theorem sf_list {a : E} {ea : Expr} {p pos : Pos} (hc : X.calm = true) (ha : SO G X cf own a ea) (hr : ∀ b, a ≠ .rg1 b)
    (hg : Gl X (f1Name .list)) (hm : X.mg (f1Name .list) = none) (hst : starEach [ea] X.env = (false, eval ea X.env) :: starEach [] X.env) : SF G X cf own (.f1 .list a) (.Call (.Name (f1Name .list) p) [ea] [] pos) := by
  intro B T O η σ H Q R s
  rw [ev_f1 hr] at s
  refine RE.of (pe_f1 hg hm (pa_cons (RE.pe ea) pa_nil hst) hst) ?_
  show RE X ea σ H fun v H1 => RC X (f1Val .list) [v] H1 Q
  refine one ha R s fun x η1 O1 v H1 s1 i1 R1 f1 o1 n1 => ?_
  obtain ⟨d, e1, s1⟩ := okS s1
  obtain ⟨z, e2, s1⟩ := okS s1
  have D1 := rd_ok R1 e1 o1 n1
  obtain ⟨ds, hd, rfl⟩ := f1_list e2
  rcases hd with rfl | rfl | ⟨ks, ds', rfl, rfl⟩
  · obtain ⟨b, xs, rfl, h1, h2, h3⟩ := D1.lst
    exact RC.of call_list_of ⟨b, xs, rfl, .inl (SqL.of h1), fun l hl => s1 O1 H1 l xs i1 R1 f1 hl h2 h3⟩
  · obtain ⟨b, xs, rfl, h1, _, h2, h3⟩ := (D1.other fun _ z => nomatch z).tup_of
    exact RC.of call_list_of ⟨b, xs, rfl, .inr (SqT.of h1), fun l hl => s1 O1 H1 l xs i1 R1 f1 hl h2 h3⟩
  · obtain ⟨b, xs, rfl, h1, h2, hk, h3⟩ := D1.dc
    have l := h3.length
    refine RC.of (call_list_dK hc) ⟨b, _, rfl, h1, fun p hp => ?_⟩
    rw [kvz_keys (by omega)]
    exact s1 O1 H1 p _ i1 R1 f1 hp (by rw [List.length_map]; omega) (DaL.ints _)
theorem sf_sorted {a : E} {ea : Expr} {p pos : Pos} (hc : X.calm = true) (ha : SO G X cf own a ea) (hr : ∀ b, a ≠ .rg1 b)
    (hg : Gl X (f1Name .sorted)) (hm : X.mg (f1Name .sorted) = none) (hst : starEach [ea] X.env = (false, eval ea X.env) :: starEach [] X.env) : SF G X cf own (.f1 .sorted a) (.Call (.Name (f1Name .sorted) p) [ea] [] pos) := by
  intro B T O η σ H Q R s
  rw [ev_f1 hr] at s
  refine RE.of (pe_f1 hg hm (pa_cons (RE.pe ea) pa_nil hst) hst) ?_
  show RE X ea σ H fun v H1 => RC X (f1Val .sorted) [v] H1 Q
  refine one ha R s fun x η1 O1 v H1 s1 i1 R1 f1 o1 n1 => ?_
  obtain ⟨d, e1, s1⟩ := okS s1
  obtain ⟨z, e2, s1⟩ := okS s1
  have D1 := rd_ok R1 e1 o1 n1
  obtain ⟨ns, ⟨ds, rfl, hi⟩ | ⟨ds, rfl, c⟩, rfl⟩ := f1_sorted e2
  rotate_left
  · obtain ⟨b, xs, rfl, h1, h2, hk, h3⟩ := D1.dc
    have l := h3.length
    refine RC.of (call_sortedDI hc) ⟨b, _, _, rfl, .inl h1, kvz_fst (by omega), c, fun ns' p hp hs hn => ?_⟩
    have e3 := isort_unique hp hs
    subst e3
    exact s1 O1 H1 p _ i1 R1 f1 hn (by rw [List.length_map, (isort_perm _).length_eq]; have : LIM = 16777216 := rfl; omega) (DaL.ints _)
  obtain ⟨b, xs, rfl, h1, h2, h3⟩ := D1.lst
  obtain ⟨e3, _⟩ := ints_of hi h3
  subst e3
  rw [List.length_map] at h2
  refine RC.of cr_sortedI ⟨b, ns, rfl, SqL.of h1, fun ns' q hp hs hn => ?_⟩
  have e4 := isort_unique hp hs
  subst e4
  refine s1 O1 H1 q _ i1 R1 f1 hn ?_ (DaL.ints _)
  rw [List.length_map, (isort_perm ns).length_eq]; exact h2
/-- list(range(n)), tuple(range(n)) -/
theorem rgV_ints {K : PySem.W.Frag} {H : Hp} {O : Addr → Prop} (a b : Int) : DaL K H O (intL a (b - a).toNat) (rgV a b) := by
  unfold intL rgV
  generalize (b - a).toNat = n
  have : ∀ l : List Nat, DaL K H O (l.map fun i => D.int (a + (i : Nat))) (l.map fun i => V.int (a + (i : Nat))) := by
    intro l
    induction l with
    | nil => exact DaL.nil
    | cons i l ih => exact DaL.cons Da.int ih
  exact this _
theorem rng_ok {x y : D} {ds : List D} (h : rngItems x y = .ok ds) : ∃ i j, x = .int i ∧ y = .int j ∧ (-(2 ^ 62) ≤ i ∧ i < 2 ^ 62 ∧ -(2 ^ 62) ≤ j ∧ j < 2 ^ 62) ∧ ds = intL i (j - i).toNat := by
  unfold rngItems at h
  split at h
  · rename_i i j
    split at h
    · rename_i c
      cases h
      unfold boundOk at c
      simp only [Bool.and_eq_true, decide_eq_true_eq] at c
      exact ⟨i, j, rfl, rfl, ⟨c.1.1, c.1.2, c.2.1, c.2.2⟩, rfl⟩
    · cases h
  · cases h
theorem intL_length (i : Int) (n : Nat) : (intL i n).length = n := by unfold intL; rw [List.length_map, List.length_range]
theorem se_rgl {f : F1} {b : E} {eb : Expr} {p p' pos pos' : Pos} (hc : X.calm = true) (hf : f = .list ∨ f = .tuple) (hb : SE G X cf own b eb) (hg : Gl X (f1Name f)) (hm : X.mg (f1Name f) = none) (hg2 : Gl X "range") (hm2 : X.mg "range" = none)
    (hst : starEach [eb] X.env = (false, eval eb X.env) :: starEach [] X.env) : SE G X cf own (.f1 f (.rg1 b)) (.Call (.Name (f1Name f) p) [.Call (.Name "range" p') [eb] [] pos'] [] pos) := by
  intro B T O η σ H Q R s
  simp only [ev] at s
  have s2 : starEach [.Call (.Name "range" p') [eb] [] pos'] X.env = (false, eval (.Call (.Name "range" p') [eb] [] pos') X.env) :: starEach [] X.env := rfl
  rcases hf with rfl | rfl
  · refine RE.of (pe_listRg hc hg hm (prg_1 hg2 hm2 (RE.pe eb) hst) s2) ?_
    refine one' hb R s fun n η1 O1 v H1 s1 i1 R1 f1 o1 => ?_
    obtain ⟨ds, e1, s1⟩ := okS s1
    split at s1
    · rename_i l
      obtain ⟨z, e2, s1⟩ := okS s1
      obtain ⟨i, j, e3, e4, bb, rfl⟩ := rng_ok e1
      cases e3
      have e4 : n = .int j := e4
      subst e4
      have e5 := o1.int_of
      subst e5
      rw [intL_length] at l
      have l : (j - 0).toNat ≤ 2 ^ 24 := l
      cases e2
      refine ⟨j, rfl, ⟨by omega, by omega, bb.2.2.1, bb.2.2.2, l⟩, fun q hq => ?_⟩
      exact s1 O1 _ _ i1 (R1.same (Same.new hq)) (f1.trans i1 (Fr.new hq)) (R1.newL hq (by rw [rgV_length]; exact l) (rgV_ints 0 j))
    · exact s1.elim
  · refine RE.of (pe_tupRg hc hg hm (prg_1 hg2 hm2 (RE.pe eb) hst) s2) ?_
    refine one' hb R s fun n η1 O1 v H1 s1 i1 R1 f1 o1 => ?_
    obtain ⟨ds, e1, s1⟩ := okS s1
    split at s1
    · rename_i l
      obtain ⟨z, e2, s1⟩ := okS s1
      obtain ⟨i, j, e3, e4, bb, rfl⟩ := rng_ok e1
      cases e3
      have e4 : n = .int j := e4
      subst e4
      have e5 := o1.int_of
      subst e5
      rw [intL_length] at l
      have l : (j - 0).toNat ≤ 2 ^ 24 := l
      cases e2
      refine ⟨j, rfl, ⟨by omega, by omega, bb.2.2.1, bb.2.2.2, l⟩, fun q hq => ?_⟩
      exact s1 O1 _ _ i1 (R1.same (Same.new hq)) (f1.trans i1 (Fr.new hq)) (R1.newT hq (by rw [rgV_length]; exact l) (rgV_ints 0 j))
    · exact s1.elim
/-- sorted(set(t)), len(set(t)) -/
theorem f1_sset {d z : D} (h : f1D .sset d = .ok z) : ∃ xs ns, d = .tup xs ∧ intsOf xs = some ns ∧ ns.length < 64 ∧ z = .lst ((uniq (isort ns)).map .int) := by
  cases d with
  | tup xs =>
    simp only [f1D] at h
    split at h
    · rename_i ns e
      split at h
      · rename_i l
        cases h; exact ⟨xs, ns, rfl, e, l, rfl⟩
      · cases h
    · cases h
  | _ => cases h
theorem f1_lset {d z : D} (h : f1D .lset d = .ok z) : ∃ xs ns, d = .tup xs ∧ intsOf xs = some ns ∧ ns.length < 64 ∧ z = .int (uniq (isort ns)).length := by
  cases d with
  | tup xs =>
    simp only [f1D] at h
    split at h
    · rename_i ns e
      split at h
      · rename_i l
        cases h; exact ⟨xs, ns, rfl, e, l, rfl⟩
      · cases h
    · cases h
  | _ => cases h
theorem uniq_length (xs : List Int) : (uniq (isort xs)).length ≤ xs.length := by
  have : ∀ l : List Int, (uniq l).length ≤ l.length := by
    intro l
    induction l using uniq.induct with
    | case1 x xs ih => unfold uniq; rw [if_pos rfl]; simp only [List.length_cons] at ih ⊢; omega
    | case2 x y xs n ih => unfold uniq; rw [if_neg n]; simp only [List.length_cons] at ih ⊢; omega
    | case3 xs h => unfold uniq; split <;> first | (exact absurd rfl (h _ _ _)) | exact Nat.le_refl _
  have h := this (isort xs)
  rw [(isort_perm xs).length_eq] at h
  exact h
theorem sf_sset {a : E} {ea : Expr} {p p' pos pos' : Pos} (hc : X.calm = true) (ha : SO G X cf own a ea) (hr : ∀ b, a ≠ .rg1 b) (hg : Gl X "sorted") (hm : X.mg "sorted" = none) (hg2 : Gl X "set") (hm2 : X.mg "set" = none)
    (hst : starEach [ea] X.env = (false, eval ea X.env) :: starEach [] X.env) : SF G X cf own (.f1 .sset a) (.Call (.Name "sorted" p) [.Call (.Name "set" p') [ea] [] pos'] [] pos) := by
  intro B T O η σ H Q R s
  rw [ev_f1 hr] at s
  have s2 : starEach [.Call (.Name "set" p') [ea] [] pos'] X.env = (false, eval (.Call (.Name "set" p') [ea] [] pos') X.env) :: starEach [] X.env := rfl
  refine RE.of (pe_callB (cr_sortedSet hc) hg hm boot_sorted (pa_cons (pe_callTy (cr_setT hc) hg2 hm2 boot_set (pa_cons (RE.pe ea) pa_nil hst) (by decide) (by decide) hst rfl) pa_nil s2) (by decide) (by decide) s2 rfl) ?_
  show RE X ea σ H fun v H1 => rSetT X.w [v] H1 fun u H2 => rSortedSet X.w [u] H2 Q
  refine one ha R s fun x η1 O1 v H1 s1 i1 R1 f1 o1 n1 => ?_
  obtain ⟨d, e1, s1⟩ := okS s1
  obtain ⟨z, e2, s1⟩ := okS s1
  obtain ⟨ds, ns, rfl, hi, hl, rfl⟩ := f1_sset e2
  obtain ⟨b, xs, rfl, h1, _, h2, h3⟩ := ((rd_ok R1 e1 o1 n1).other fun _ z => nomatch z).tup_of
  obtain ⟨e3, _⟩ := ints_of hi h3
  subst e3
  refine ⟨b, ns, rfl, h1, hl, fun q S c hq hS hcn => ⟨q, S, c, rfl, upd_same, ?_, fun ms r hs hm hlen hr => ?_⟩⟩
  · have := uniq_length ns; omega
  · have e4 := sset_unique hs fun k => (hm k).trans (hS k)
    subst e4
    have R2 := R1.same (Same.new (o := SetO X.w q S c) hq)
    exact s1 O1 _ r _ i1 R2 (f1.trans i1 (Fr.new hq)) hr (by rw [List.length_map]; have := uniq_length ns; show _ ≤ 16777216; omega) (DaL.ints _)
theorem se_lset {a : E} {ea : Expr} {p p' pos pos' : Pos} (hc : X.calm = true) (ha : SO G X cf own a ea) (hr : ∀ b, a ≠ .rg1 b) (hg : Gl X "len") (hm : X.mg "len" = none) (hg2 : Gl X "set") (hm2 : X.mg "set" = none)
    (hst : starEach [ea] X.env = (false, eval ea X.env) :: starEach [] X.env) : SE G X cf own (.f1 .lset a) (.Call (.Name "len" p) [.Call (.Name "set" p') [ea] [] pos'] [] pos) := by
  intro B T O η σ H Q R s
  rw [ev_f1 hr] at s
  have s2 : starEach [.Call (.Name "set" p') [ea] [] pos'] X.env = (false, eval (.Call (.Name "set" p') [ea] [] pos') X.env) :: starEach [] X.env := rfl
  refine RE.of (pe_callB cr_lenS hg hm boot_len (pa_cons (pe_callTy (cr_setT hc) hg2 hm2 boot_set (pa_cons (RE.pe ea) pa_nil hst) (by decide) (by decide) hst rfl) pa_nil s2) (by decide) (by decide) s2 rfl) ?_
  show RE X ea σ H fun v H1 => rSetT X.w [v] H1 fun u H2 => rLenS X.w [u] H2 Q
  refine one ha R s fun x η1 O1 v H1 s1 i1 R1 f1 o1 n1 => ?_
  obtain ⟨d, e1, s1⟩ := okS s1
  obtain ⟨z, e2, s1⟩ := okS s1
  obtain ⟨ds, ns, rfl, hi, hl, rfl⟩ := f1_lset e2
  obtain ⟨b, xs, rfl, h1, _, h2, h3⟩ := ((rd_ok R1 e1 o1 n1).other fun _ z => nomatch z).tup_of
  obtain ⟨e3, _⟩ := ints_of hi h3
  subst e3
  refine ⟨b, ns, rfl, h1, hl, fun q S c hq hS hcn => ⟨q, S, c, rfl, upd_same, ?_, ?_⟩⟩
  · have := uniq_length ns; omega
  · subst hcn
    exact s1 O1 _ _ i1 (R1.same (Same.new hq)) (f1.trans i1 (Fr.new hq)) Da.int
end
end Py
set_option Elab.async false
set_option linter.all false
set_option maxRecDepth 100000
set_option maxHeartbeats 1000000
namespace Py
open PySem PySem.Spec PyProof.Rows L2
/-! ### no star -/
def isStar : Expr → Bool
  | .Starred _ _ => true
  | _ => false
theorem ns_of {e : Expr} (h : isStar e = false) (es : List Expr) (env : PySem.Env) : starEach (e :: es) env = (false, eval e env) :: starEach es env := by
  cases e <;> first | rfl | cases h
theorem back_ns : ∀ {es : List Expr}, (∀ e ∈ es, isStar e = false) → ∀ (pos : Pos) (env : PySem.Env), (backTo pos (starEach es env)).any (·.1) = false
  | [], _, _, _ => rfl
  | e :: es, h, pos, env => by
    rw [ns_of (h e (List.mem_cons_self ..))]
    show (false || (backTo pos (starEach es env)).any (·.1)) = false
    rw [Bool.false_or]
    exact back_ns (fun x hx => h x (List.mem_cons_of_mem _ hx)) pos env
/-! ### isinstance -/
def tyNm : Ty → String
  | .int => "int"
  | .bool => "bool"
  | .str => "str"
  | .list => "list"
  | .tuple => "tuple"
def tyStr : Ty → Str
  | .int => "int"
  | .bool => "bool"
  | .str => "str"
  | .list => "list"
  | .tuple => "tuple"
theorem bootTy (t : Ty) : bootBuiltins (tyStr t) = some (.type (tyNm t)) := by
  cases t
  · exact boot_int
  · exact boot_bool
  · exact boot_str
  · exact boot_list
  · exact boot_tuple
def nmOf : Option Ty → String
  | none => "NoneType"
  | some t => tyNm t
def isTyT (o : Option Ty) (t : Ty) : Bool := match o, t with
  | some .bool, .int => true
  | some x, y => x == y
  | none, _ => false
theorem isTy_eq (d : D) (t : Ty) : isTy d t = isTyT (tyOf d) t := by
  unfold isTy isTyT
  rfl
theorem kit_all (o : Option Ty) (t : Ty) : kitB (nmOf o) (tyNm t) = some (isTyT o t) := by
  cases o with
  | none => cases t <;> decide +kernel
  | some u => cases u <;> cases t <;> decide +kernel
section
variable {K : PySem.W.Frag} {H : Hp} {O : Addr → Prop}
theorem tyx_of {d : D} {v : V} (h : noneOrTy d = true) (q : DT K H O d v) : TyX K H v (.type (nmOf (tyOf d))) := by
  cases d with
  | non => have e := q.other (fun _ z => nomatch z); simp only [Da] at e; subst e; exact .base .non
  | bl b => have e := q.other (fun _ z => nomatch z); simp only [Da] at e; subst e; exact .base (.bl b)
  | int i => have e := q.other (fun _ z => nomatch z); simp only [Da] at e; subst e; exact .base (.int i)
  | str s => have e := q.other (fun _ z => nomatch z); simp only [Da] at e; subst e; exact .base (.str s)
  | tup ds =>
    obtain ⟨a, xs, rfl, h1, _⟩ := (q.other fun _ z => nomatch z).tup_of
    exact .base (.tup h1)
  | lst ds =>
    obtain ⟨a, xs, rfl, h1, _⟩ := q.lst
    exact .base (.lst h1)
  | rng lo hi => cases h
  | fz ds => cases h
  | dc ks ds => cases h
  | er _ _ _ => cases h
theorem kit_any (d : D) : ∀ ts : List Ty, PySem.W.kitAny K (.type (nmOf (tyOf d))) (ts.map fun t => .type (tyNm t)) = some (ts.any (isTy d))
  | [] => rfl
  | t :: ts => by
    refine kitAny_cons (b := isTy d t) (kit_ty (by rw [isTy_eq]; exact kit_all _ _)) (fun e => ?_) fun e => ?_
    · rw [List.any_cons, e, Bool.false_or]; exact kit_any d ts
    · rw [List.any_cons, e, Bool.true_or]
end
section
variable {G : Exi} {X : Cx} {cf : CF} {own : List Nat}
theorem pe_tyN {t : Ty} {p : Pos} (hg : Gl X (tyStr t)) (hm : X.mg (tyStr t) = none) : PE X (.Name (tyStr t) p) (tC (.ty (tyNm t))) :=
  pe_bltn hg hm (bootTy t) rfl (by cases t <;> decide) (by cases t <;> decide)
theorem se_isi1 {a : E} {t : Ty} {ea : Expr} {p p' pos : Pos} (ha : SO G X cf own a ea) (hs : isStar ea = false) (hg : Gl X "isinstance") (hm : X.mg "isinstance" = none) (hg2 : Gl X (tyStr t)) (hm2 : X.mg (tyStr t) = none) :
    SE G X cf own (.isi a [t]) (.Call (.Name "isinstance" p) [ea, .Name (tyStr t) p'] [] pos) := by
  intro B T O η σ H Q R s
  simp only [ev] at s
  refine RE.of (pe_callB call_isi hg hm boot_isinstance (pa_cons (RE.pe ea) (pa_cons (pe_tyN hg2 hm2) pa_nil rfl) (ns_of hs _ _)) (by decide) (by decide) (ns_of hs _ _) rfl) ?_
  show RE X ea σ H fun v H1 => rIsi X.K [v, .ty (tyNm t)] H1 Q
  refine one ha R s fun x η1 O1 v H1 s1 i1 R1 f1 o1 n1 => ?_
  obtain ⟨d, e1, s1⟩ := okS s1
  split at s1
  · rename_i c
    refine ⟨v, .ty (tyNm t), _, _, _, rfl, .ty _, tyx_of c (rd_ok R1 e1 o1 n1), kit_ty (kit_all _ _), ?_⟩
    rw [List.any_cons, List.any_nil, Bool.or_false, isTy_eq] at s1
    exact s1 O1 _ H1 i1 R1 f1 Da.bl
  · exact s1.elim
/-- the names of types in a row -/
def TyEs (X : Cx) : List Ty → List Expr → Prop
  | [], [] => True
  | t :: ts, .Name x _ :: es => x = tyStr t ∧ Gl X (tyStr t) ∧ X.mg (tyStr t) = none ∧ TyEs X ts es
  | _, _ => False
theorem pa_tys : ∀ {ts : List Ty} {es : List Expr}, TyEs X ts es → PA X es (fun _ H Q => Q (ts.map fun t => V.ty (tyNm t)) H)
  | [], [], _ => pa_nil
  | t :: ts, .Name x p :: es, ⟨e, h1, h2, h⟩ => by
    subst e
    exact pa_cons (pe_tyN h1 h2) (pa_tys h) rfl
  | [], e :: es, h => h.elim
  | t :: ts, [], h => h.elim
  | t :: ts, .Constant .. :: es, h => h.elim
  | t :: ts, .BinOp .. :: es, h => h.elim
  | t :: ts, .BoolOp .. :: es, h => h.elim
  | t :: ts, .Call .. :: es, h => h.elim
  | t :: ts, .Tuple .. :: es, h => h.elim
  | t :: ts, .List .. :: es, h => h.elim
  | t :: ts, .Attribute .. :: es, h => h.elim
  | t :: ts, .Subscript .. :: es, h => h.elim
  | t :: ts, .Starred .. :: es, h => h.elim
  | t :: ts, .NamedExpr .. :: es, h => h.elim
  | t :: ts, .UnaryOp .. :: es, h => h.elim
  | t :: ts, .Lambda .. :: es, h => h.elim
  | t :: ts, .IfExp .. :: es, h => h.elim
  | t :: ts, .Dict .. :: es, h => h.elim
  | t :: ts, .Set .. :: es, h => h.elim
  | t :: ts, .ListComp .. :: es, h => h.elim
  | t :: ts, .SetComp .. :: es, h => h.elim
  | t :: ts, .DictComp .. :: es, h => h.elim
  | t :: ts, .GeneratorExp .. :: es, h => h.elim
  | t :: ts, .Await .. :: es, h => h.elim
  | t :: ts, .Yield .. :: es, h => h.elim
  | t :: ts, .YieldFrom .. :: es, h => h.elim
  | t :: ts, .Compare .. :: es, h => h.elim
  | t :: ts, .FormattedValue .. :: es, h => h.elim
  | t :: ts, .JoinedStr .. :: es, h => h.elim
  | t :: ts, .Slice .. :: es, h => h.elim
theorem tys_paired : ∀ ts : List Ty, Paired ClsV (ts.map fun t => V.ty (tyNm t)) (ts.map fun t => Value.type (tyNm t))
  | [] => .nil
  | t :: ts => .cons (.ty _) (tys_paired ts)
theorem se_isiT {a : E} {ts : List Ty} {ea : Expr} {es : List Expr} {x1 : Nat} {p p' pos : Pos} (ha : SO G X cf own a ea) (hs : isStar ea = false) (hg : Gl X "isinstance") (hm : X.mg "isinstance" = none) (ht : TyEs X ts es) (hl : ts.length ≤ LIM) :
    SE G X cf own (.isi a ts) (.Call (.Name "isinstance" p) [ea, .Tuple es x1 p'] [] pos) := by
  intro B T O η σ H Q R s
  simp only [ev] at s
  refine RE.of (pe_callB call_isiT hg hm boot_isinstance (pa_cons (RE.pe ea) (pa_cons (pe_tup (pa_tys ht)) pa_nil rfl) (ns_of hs _ _)) (by decide) (by decide) (ns_of hs _ _) rfl) ?_
  show RE X ea σ H fun v H1 => (List.map (fun t => V.ty (tyNm t)) ts).length ≤ sizeLine ∧ ∀ p, H1 p = none → rIsiT X.K [v, .ref p] (upd H1 p (.tup (ts.map fun t => V.ty (tyNm t)))) Q
  refine one ha R s fun x η1 O1 v H1 s1 i1 R1 f1 o1 n1 => ⟨by rw [List.length_map, ← LIM_line]; exact hl, fun p hp => ?_⟩
  obtain ⟨d, e1, s1⟩ := okS s1
  split at s1
  · rename_i c
    have R2 := R1.same (Same.new (o := .tup (ts.map fun t => V.ty (tyNm t))) hp)
    refine ⟨v, p, _, _, _, _, rfl, upd_same, tys_paired ts, tyx_of c (rd_ok R2 e1 (o1.fr (Fr.new hp) fun _ z => z) n1), kit_any d ts, ?_⟩
    exact s1 O1 _ _ i1 R2 (f1.trans i1 (Fr.new hp)) Da.bl
  · exact s1.elim
/-! ### a[i] -/
def rIxK : R2 := fun x y H Q => ∃ (a : Addr) (k : Int) (v : V), x = .ref a ∧ y = .int k ∧ DGet H a (.int k) (some v) ∧ Q v H
theorem ix_dict (hu : X.A.units + 1 < cLine) : IxR X rIxK := by
  intro value slice pins s σ H x y v u Q I rx ry h hs
  obtain ⟨a, k, r, rfl, rfl, g, q⟩ := h
  obtain rfl : v = Value.ref a := rx
  exact tail_any (dict_typeIs I g) slot_dict_getitem.lookup (d_getItem hu I g ry fun w' s3 I3 rw' => ⟨r, H, I3, rw', q⟩) hs
def RIx (X : Cx) : R2 := fun x y H Q => (rIxL X.K x y H Q ∨ rIxT X.K x y H Q) ∨ rIxK x y H Q
theorem ix_or (hu : X.A.units + 1 < cLine) : IxR X (RIx X) := (IxR.or ix_list ix_tup).or (ix_dict hu)
theorem atI_da {K : PySem.W.Frag} {H : Hp} {O : Addr → Prop} {ds : List D} {xs : List V} {k : Int} {d : D} (h : atI ds k = some d) (q : DaL K H O ds xs) : ∃ v, atI xs k = some v ∧ Da K H O d v := by
  unfold atI at h ⊢
  rw [q.length]
  cases e : ixN ds.length k with
  | none => rw [e] at h; cases h
  | some j => rw [e] at h; exact q.get h
theorem ixD_ok {H : Hp} {O : Addr → Prop} {x y : V} {d i z : D} {Q : VK} (h : ixD d i = .ok z) (hx : DT X.K H O d x) (hy : Da X.K H O i y) (q : ∀ v, Da X.K H O z v → Q v H) : RIx X x y H Q := by
  unfold ixD at h
  split at h
  · rename_i ds k
    split at h
    · rename_i w e
      cases h
      obtain ⟨a, xs, rfl, h1, _, h3⟩ := hx.lst
      have e2 := hy.int_of
      subst e2
      obtain ⟨v, e3, h4⟩ := atI_da e h3
      exact .inl (.inl ⟨a, xs, k, v, rfl, rfl, SqL.of h1, e3, q v h4⟩)
    · cases h
  · rename_i ds k
    split at h
    · rename_i w e
      cases h
      obtain ⟨a, xs, rfl, h1, _, _, h3⟩ := (hx.other fun _ z => nomatch z).tup_of
      have e2 := hy.int_of
      subst e2
      obtain ⟨v, e3, h4⟩ := atI_da e h3
      exact .inl (.inr ⟨a, xs, k, v, rfl, rfl, SqT.of h1, e3, q v h4⟩)
    · cases h
  · rename_i ks ds k
    split at h
    · rename_i w e
      cases h
      obtain ⟨a, xs, rfl, h1, _, hk, h3⟩ := hx.dc
      have e2 := hy.int_of
      subst e2
      obtain ⟨v, e3, h4⟩ := kvz_get h3 e
      exact .inr ⟨a, k, v, rfl, rfl, by rw [← e3]; exact DGet.k (k := .inl k) h1, q v h4⟩
    · cases h
  · cases h
def isSlice : Expr → Bool
  | .Slice .. => true
  | _ => false
theorem plain_ix {e : Expr} (h : isSlice e = false) : PlainIx e := by
  intro o i
  cases e <;> first | rfl | cases h
theorem se_ix {a i : E} {ea ei : Expr} {pos : Pos} (hu : X.A.units + 1 < cLine) (ha : SO G X cf own a ea) (hi : SE G X cf own i ei) (hp : isSlice ei = false) : SE G X cf own (.ix a i) (.Subscript ea ei pos) := by
  intro B T O η σ H Q R s
  simp only [ev] at s
  refine RE.of (pe_ix (ix_or hu) (RE.pe ea) (RE.pe ei) (plain_ix hp)) ?_
  refine one ha R s fun x η1 O1 v H1 s1 i1 R1 f1 o1 n1 => ?_
  refine one' hi R1 s1 fun y η2 O2 u H2 s2 i2 R2 f2 o2 => ?_
  obtain ⟨d, e1, s2⟩ := okS s2
  obtain ⟨z, e2, s2⟩ := okS s2
  exact ixD_ok e2 (rd_ok R2 e1 (o1.fr f2 i2) n1) o2 fun v z => s2 O2 v H2 (fun a z => i1 a (i2 a z)) R2 (f1.trans i1 f2) z
/-! ### slices -/
def RP (X : Cx) (o : Option Expr) : TO := match o with
  | none => tNoPart
  | some e => tPart (RE X e)
theorem RP.po (o : Option Expr) : PO X o (RP X o) := by
  cases o with
  | none => exact po_none
  | some e => exact po_some (RE.pe e)
def PRel (G : Exi) (X : Cx) (cf : CF) (own : List Nat) (q : E) (o : Option Expr) : Prop := match o with
  | none => q = .no
  | some e => q ≠ .no ∧ SE G X cf own q e
theorem onePt {q : E} {e : Option Expr} (h : PRel G X cf own q e) {B : Base} {T : List (Addr × D)} {O : Addr → Prop} {η : Env} {σ : L2.St} {H : Hp} {γ : Type} {F : Option Int × Env → R γ} {QF : γ → Prop} {Q : Option Int → Hp → Prop} (R : Rep X.K own B T O η σ H)
    (s : Sat ((part q (ev cf q) η).bind F) QF (XOk G X B σ))
    (k : ∀ (x : Option Int) (η1 : Env) (O1 : Addr → Prop) (H1 : Hp), Sat (F (x, η1)) QF (XOk G X B σ) → (∀ a, O1 a → O a) → Rep X.K own B T O1 η1 σ H1 → Fr O H H1 → Q x H1) : RP X e σ H Q := by
  cases e with
  | none =>
    have h : q = .no := h
    subst h
    exact k none η O H s (fun _ z => z) R Fr.refl
  | some e =>
    obtain ⟨n, h⟩ := h
    have e1 : part q (ev cf q) η = (ev cf q η).bind fun x => (noer (dInt x.1)).bind fun i => .ok (some i, x.2) := by
      cases q <;> first | rfl | exact absurd rfl n
    rw [e1] at s
    have s : Sat ((ev cf q η).bind fun x => ((noer (dInt x.1)).bind fun i => Py.R.ok (some i, x.2)).bind F) QF (XOk G X B σ) := by
      revert s
      cases ev cf q η <;> exact id
    show RE X e σ H fun x H1 => ∃ i, x = .int i ∧ Q (some i) H1
    refine one' h R s fun x η1 O1 v H1 s1 i1 R1 f1 o1 => ?_
    cases r : dInt x with
    | er c p => rw [r] at s1; exact s1.elim
    | st => rw [r] at s1; exact s1.elim
    | ok i =>
      rw [r] at s1
      have e2 := dIntS r
      subst e2
      exact ⟨i, o1.int_of, k (some i) η1 O1 H1 s1 i1 R1 f1⟩
theorem cut_da {K : PySem.W.Frag} {H : Hp} {O : Addr → Prop} {ds : List D} {xs : List V} (lo hi : Option Int) (q : DaL K H O ds xs) : DaL K H O (cutD ds lo hi) (cutV xs lo hi) := by
  unfold cutD cutV
  rw [q.length]
  exact (q.drop _).take _
def RSl (X : Cx) : V → Option Int → Option Int → Hp → VK → Prop := fun x lo hi H Q => rSlL X.K x lo hi H Q ∨ rSlA X.K x lo hi H Q
theorem sl_or : SlR X (RSl X) := SlR.or sl_list sl_tupA
theorem slD_ok {H : Hp} {O : Addr → Prop} {x : V} {lo hi : Option Int} {d z : D} {Q : VK} (h : slD d lo hi = .ok z) (hx : DT X.K H O d x)
    (q1 : ∀ v, Da X.K H O z v → Q v H)
    (q2 : ∀ p xs ds, H p = none → z = .lst ds → xs.length ≤ LIM → DaL X.K H O ds xs → Q (.ref p) (upd H p (.lst xs)))
    (q3 : ∀ p xs ds, H p = none → z = .tup ds → xs.length ≤ LIM → DaL X.K H O ds xs → Q (.ref p) (upd H p (.tup xs))) : RSl X x lo hi H Q := by
  unfold slD at h
  split at h
  · cases h
    obtain ⟨a, xs, rfl, h1, h2, h3⟩ := hx.lst
    exact .inl ⟨a, xs, rfl, SqL.of h1, fun p hp => q2 p _ _ hp rfl (Nat.le_trans (cutV_length _ _ _) h2) (cut_da lo hi h3)⟩
  · cases h
    have hx := hx.other fun _ z => nomatch z
    simp only [Da] at hx
    obtain ⟨a, xs, rfl, h1, h2, h3⟩ := hx
    refine .inl ⟨a, xs, rfl, ?_, fun p hp => q2 p _ _ hp rfl (Nat.le_trans (cutV_length _ _ _) h2) (cut_da lo hi h3)⟩
    rcases h1 with ⟨o, h1, _⟩ | h1
    · exact .inl (.inr ⟨o, h1⟩)
    · exact h1 H
  · cases h
    have hx := hx.other fun _ z => nomatch z
    obtain ⟨a, xs, rfl, h1, h1', h2, h3⟩ := hx.tup_of
    have l := h3.length
    refine .inr ⟨a, xs, rfl, SqT.of h1, fun w => q1 _ ?_, fun _ p hp => q3 p _ _ hp rfl (Nat.le_trans (cutV_length _ _ _) h2) (cut_da lo hi h3)⟩
    have e : ∀ zs : List D, xs.length = zs.length → cutD zs lo hi = zs := fun zs l => by
      unfold cutD
      rw [← l, w.1, w.2, l, List.drop_zero, Nat.sub_zero, List.take_length]
    rw [e _ l]
    exact hx
  · cases h
theorem se_sl {a lo hi : E} {ea : Expr} {elo ehi : Option Expr} {p2 pos : Pos} (ha : SO G X cf own a ea) (hlo : PRel G X cf own lo elo) (hhi : PRel G X cf own hi ehi) : SE G X cf own (.sl a lo hi) (.Subscript ea (.Slice elo ehi none p2) pos) := by
  intro B T O η σ H Q R s
  simp only [ev] at s
  refine RE.of (pe_slice sl_or (RE.pe ea) (RP.po elo) (RP.po ehi)) ?_
  refine one ha R s fun x η1 O1 v H1 s1 i1 R1 f1 o1 n1 => ?_
  refine onePt hlo R1 s1 fun l η2 O2 H2 s2 i2 R2 f2 => ?_
  refine onePt hhi R2 s2 fun h η3 O3 H3 s3 i3 R3 f3 => ?_
  obtain ⟨d, e1, s3⟩ := okS s3
  obtain ⟨z, e2, s3⟩ := okS s3
  have ii : ∀ a, O3 a → O a := fun a z => i1 a (i2 a (i3 a z))
  have ff := (f1.trans i1 f2).trans (fun a z => i1 a (i2 a z)) f3
  refine slD_ok e2 (rd_ok R3 e1 ((o1.fr f2 i2).fr f3 i3) n1) (fun v z => s3 O3 v H3 ii R3 ff z) (fun p xs ds hp e l z => ?_) (fun p xs ds hp e l z => ?_)
  · subst e
    exact s3 O3 _ _ ii (R3.same (Same.new hp)) (ff.trans ii (Fr.new hp)) (R3.newL hp l z)
  · subst e
    exact s3 O3 _ _ ii (R3.same (Same.new hp)) (ff.trans ii (Fr.new hp)) (R3.newT hp l z)
theorem slD_lst {d z : D} {lo hi : Option Int} (h : slD d lo hi = .ok z) : (∃ ds, (d = .lst ds ∨ d = .fz ds) ∧ z = .lst (cutD ds lo hi)) ∨ ∃ ds, z = .tup ds := by
  unfold slD at h
  split at h
  · cases h; exact .inl ⟨_, .inl rfl, rfl⟩
  · cases h; exact .inl ⟨_, .inr rfl, rfl⟩
  · cases h; exact .inr ⟨_, rfl⟩
  · cases h
theorem sf_sl {a lo hi : E} {ea : Expr} {elo ehi : Option Expr} {p2 pos : Pos} (ha : SO G X cf own a ea) (hlo : PRel G X cf own lo elo) (hhi : PRel G X cf own hi ehi) : SF G X cf own (.sl a lo hi) (.Subscript ea (.Slice elo ehi none p2) pos) := by
  intro B T O η σ H Q R s
  simp only [ev] at s
  refine RE.of (pe_slice sl_list (RE.pe ea) (RP.po elo) (RP.po ehi)) ?_
  refine one ha R s fun x η1 O1 v H1 s1 i1 R1 f1 o1 n1 => ?_
  refine onePt hlo R1 s1 fun l η2 O2 H2 s2 i2 R2 f2 => ?_
  refine onePt hhi R2 s2 fun h η3 O3 H3 s3 i3 R3 f3 => ?_
  obtain ⟨d, e1, s3⟩ := okS s3
  obtain ⟨z, e2, s3⟩ := okS s3
  have ii : ∀ a, O3 a → O a := fun a z => i1 a (i2 a (i3 a z))
  have ff := (f1.trans i1 f2).trans (fun a z => i1 a (i2 a z)) f3
  have D3 := rd_ok R3 e1 ((o1.fr f2 i2).fr f3 i3) n1
  have s3 : PostF X own B T O σ H Q (z, η3) := s3
  rcases slD_lst e2 with ⟨ds, rfl | rfl, rfl⟩ | ⟨ds, rfl⟩
  · obtain ⟨b, xs, rfl, h1, h2, h3⟩ := D3.lst
    exact ⟨b, xs, rfl, SqL.of h1, fun p hp => s3 O3 H3 p _ ii R3 ff hp (Nat.le_trans (cutV_length _ _ _) h2) (cut_da l h h3)⟩
  · have hx := D3.other fun _ z => nomatch z
    simp only [Da] at hx
    obtain ⟨b, xs, rfl, h1, h2, h3⟩ := hx
    refine ⟨b, xs, rfl, ?_, fun p hp => s3 O3 H3 p _ ii R3 ff hp (Nat.le_trans (cutV_length _ _ _) h2) (cut_da l h h3)⟩
    rcases h1 with ⟨o, h1, _⟩ | h1
    · exact .inl (.inr ⟨o, h1⟩)
    · exact h1 H3
  · exact s3.elim
/-! ### min, max, gcd of two -/
theorem f2_int {f : F2} {x y z : D} (h : f2D f x y = .ok z) : ∃ i j k, x = .int i ∧ y = .int j ∧ z = .int k ∧ f2D f (.int i) (.int j) = .ok (.int k) := by
  cases f <;> cases x <;> cases y <;> first | (cases h; exact ⟨_, _, _, rfl, rfl, rfl, rfl⟩) | cases h
theorem se_min {a b : E} {ea eb : Expr} {p pos : Pos} (hc : X.calm = true) (ha : SE G X cf own a ea) (hb : SE G X cf own b eb) (hs : isStar ea = false) (hs2 : isStar eb = false) (hg : Gl X "min") (hm : X.mg "min" = none) : SE G X cf own (.f2 .min a b) (.Call (.Name "min" p) [ea, eb] [] pos) := by
  intro B T O η σ H Q R s
  simp only [ev] at s
  refine RE.of (pe_callB (call_min2 hc) hg hm boot_min (pa_cons (RE.pe ea) (pa_cons (RE.pe eb) pa_nil (ns_of hs2 _ _)) (ns_of hs _ _)) (by decide) (by decide) (ns_of hs _ _) (back_ns (by intro e he; rcases List.mem_singleton.mp he with rfl; exact hs2) _ _)) ?_
  refine one' ha R s fun x η1 O1 v H1 s1 i1 R1 f1 o1 => ?_
  refine one' hb R1 s1 fun y η2 O2 u H2 s2 i2 R2 f2 o2 => ?_
  obtain ⟨z, e1, s2⟩ := okS s2
  obtain ⟨i, j, k, rfl, rfl, rfl, e1⟩ := f2_int e1
  cases e1
  have e2 := (o1.fr f2 i2).int_of
  have e3 := o2.int_of
  subst e2 e3
  exact ⟨_, _, rfl, s2 O2 _ H2 (fun a z => i1 a (i2 a z)) R2 (f1.trans i1 f2) Da.int⟩
theorem se_max {a b : E} {ea eb : Expr} {p pos : Pos} (hc : X.calm = true) (ha : SE G X cf own a ea) (hb : SE G X cf own b eb) (hs : isStar ea = false) (hs2 : isStar eb = false) (hg : Gl X "max") (hm : X.mg "max" = none) : SE G X cf own (.f2 .max a b) (.Call (.Name "max" p) [ea, eb] [] pos) := by
  intro B T O η σ H Q R s
  simp only [ev] at s
  refine RE.of (pe_callB (call_max2 hc) hg hm boot_max (pa_cons (RE.pe ea) (pa_cons (RE.pe eb) pa_nil (ns_of hs2 _ _)) (ns_of hs _ _)) (by decide) (by decide) (ns_of hs _ _) (back_ns (by intro e he; rcases List.mem_singleton.mp he with rfl; exact hs2) _ _)) ?_
  refine one' ha R s fun x η1 O1 v H1 s1 i1 R1 f1 o1 => ?_
  refine one' hb R1 s1 fun y η2 O2 u H2 s2 i2 R2 f2 o2 => ?_
  obtain ⟨z, e1, s2⟩ := okS s2
  obtain ⟨i, j, k, rfl, rfl, rfl, e1⟩ := f2_int e1
  cases e1
  have e2 := (o1.fr f2 i2).int_of
  have e3 := o2.int_of
  subst e2 e3
  exact ⟨_, _, rfl, s2 O2 _ H2 (fun a z => i1 a (i2 a z)) R2 (f1.trans i1 f2) Da.int⟩
theorem se_gcd {a b : E} {ea eb : Expr} {x : Str} {p pos : Pos} (ha : SE G X cf own a ea) (hb : SE G X cf own b eb) (hs : isStar ea = false) (hs2 : isStar eb = false) (hg : Gl X x) (hm : X.mg x = some (.builtin "math.gcd")) (hd : (x == ("__debug__" : Str)) = false) : SE G X cf own (.f2 .gcd a b) (.Call (.Name x p) [ea, eb] [] pos) := by
  intro B T O η σ H Q R s
  simp only [ev] at s
  refine RE.of (pe_callBfun cr_gcd hg hm (pa_cons (RE.pe ea) (pa_cons (RE.pe eb) pa_nil (ns_of hs2 _ _)) (ns_of hs _ _)) hd (ns_of hs _ _) (back_ns (by intro e he; rcases List.mem_singleton.mp he with rfl; exact hs2) _ _)) ?_
  refine one' ha R s fun x η1 O1 v H1 s1 i1 R1 f1 o1 => ?_
  refine one' hb R1 s1 fun y η2 O2 u H2 s2 i2 R2 f2 o2 => ?_
  obtain ⟨z, e1, s2⟩ := okS s2
  obtain ⟨i, j, k, rfl, rfl, rfl, e1⟩ := f2_int e1
  cases e1
  have e2 := (o1.fr f2 i2).int_of
  have e3 := o2.int_of
  subst e2 e3
  exact ⟨_, _, rfl, s2 O2 _ H2 (fun a z => i1 a (i2 a z)) R2 (f1.trans i1 f2) Da.int⟩
/-! ### x.pop(), x.pop(i) -/
theorem getLast_da {K : PySem.W.Frag} {H : Hp} {O : Addr → Prop} {ds : List D} {xs : List V} {d : D} (h : ds.getLast? = some d) (q : DaL K H O ds xs) : ∃ v, xs[xs.length - 1]? = some v ∧ Da K H O d v := by
  rw [List.getLast?_eq_getElem?] at h
  rw [q.length]
  exact q.get h
theorem dropLast_da {K : PySem.W.Frag} {H : Hp} {O : Addr → Prop} {ds : List D} {xs : List V} (q : DaL K H O ds xs) : DaL K H O ds.dropLast xs.dropLast := by
  rw [List.dropLast_eq_take, List.dropLast_eq_take, q.length]
  exact q.take _
theorem popD_none {ds zs : List D} {z : D} (h : popD ds none = .ok (z, zs)) : ds.getLast? = some z ∧ zs = ds.dropLast := by
  unfold popD at h
  dsimp only at h
  split at h
  · rename_i d e
    cases h
    exact ⟨e, rfl⟩
  · cases h
theorem popD_some {ds zs : List D} {z : D} {i : Int} (h : popD ds (some i) = .ok (z, zs)) : ∃ k, seqIndex? i ds.length = some k ∧ ds[k]? = some z ∧ (-(2 ^ 62) ≤ i ∧ i < 2 ^ 62) ∧ zs = ds.eraseIdx k := by
  unfold popD at h
  dsimp only at h
  split at h
  · rename_i k e
    split at h
    · rename_i d e2
      split at h
      · rename_i c
        cases h
        unfold boundOk at c
        simp only [Bool.and_eq_true, decide_eq_true_eq] at c
        exact ⟨k, e, e2, c, rfl⟩
      · cases h
    · cases h
  · cases h
theorem ev_pop {i : Nat} {a : E} {η : Env} : ev cf (.pop i a) η = (noer ((rd (.inr i) η).bind lstD)).bind fun _ => (part a (ev cf a) η).bind fun x => (noer (rd (.inr i) x.2)).bind fun d => (noer (popK d x.1)).bind fun y => .ok (y.1, x.2.set i (some (.lst y.2))) := by
  simp only [ev]
theorem popK_lst {d : D} {o : Option Int} {y : D × List D} (h : popK d o = .ok y) : ∃ xs, d = .lst xs ∧ popD xs o = .ok y := by
  cases d <;> first | exact ⟨_, rfl, h⟩ | cases h
theorem rdr_ok {i : Nat} {η : Env} {d : D} (h : rd (.inr i) η = .ok d) : η[i]? = some (some d) := by
  simp only [rd] at h
  split at h
  · rename_i d' e
    cases h; exact e
  · cases h
theorem se_pop {i : Nat} {x : Str} {p pos apos : Pos} (hN : X.N[i]? = some x) (hv : Vis X.env.scope x) (hd : (x == ("__debug__" : Str)) = false) (hcd : (x == ("__classdict__" : Str)) = false) (hi : i ∈ own) (hl : (apos.endLine == pos.line) = true) :
    SE G X cf own (.pop i .no) (.Call (.Attribute (.Name x p) "pop" apos) [] [] pos) := by
  intro B T O η σ H Q R s
  rw [ev_pop] at s
  obtain ⟨d, e1, s⟩ := okS s
  obtain ⟨d', e2, s⟩ := okS (show Sat ((noer (rd (.inr i) η)).bind _) _ _ from s)
  have e1 := rdr_ok (lstD_ok e1).1
  have e2 := rdr_ok e2
  obtain rfl : d' = d := by rw [e1] at e2; cases e2; rfl
  obtain ⟨y, e3, s⟩ := okS s
  obtain ⟨ds, rfl, e3⟩ := popK_lst e3
  obtain ⟨q, h1, h2, h3, hob⟩ := R.ow i _ e1 hi
  obtain ⟨xs, h4, h5, h6⟩ := hob.lstE
  obtain ⟨z, zs⟩ := y
  obtain ⟨e5, rfl⟩ := popD_none e3
  refine RE.of (pe_bm0 PySem.F.plainAttrs_list PySem.F.slot_list_pop PySem.F.type_list_pop (mt_pop (X := X)) (pe_var hN hv hd hcd) rfl hl) ?_
  obtain ⟨u, h7, h8⟩ := getLast_da e5 h6
  have l := h6.length
  obtain ⟨R1, f1⟩ := R.write e1 hi h1 (by rw [List.length_dropLast]; omega) (dropLast_da h6)
  exact ⟨_, h1, .inl ⟨rfl, xs, SqL.of h4⟩, q, xs, u, rfl, rfl, h4, h7, s O u _ (fun _ z => z) R1 f1 (h8.fr f1 fun _ z => z)⟩
theorem part_np {q : E} {r : Env → R (D × Env)} {η : Env} (n : q ≠ .no) : part q r η = (r η).bind fun x => (noer (dInt x.1)).bind fun i => .ok (some i, x.2) := by
  cases q <;> first | rfl | exact absurd rfl n
theorem bindA {α β γ : Type} (r : R α) (f : α → R β) (g : β → R γ) : (r.bind f).bind g = r.bind fun a => (f a).bind g := by
  cases r <;> rfl
theorem se_popAt {i : Nat} {a : E} {ea : Expr} {x : Str} {p pos apos : Pos} (hN : X.N[i]? = some x) (hv : Vis X.env.scope x) (hd : (x == ("__debug__" : Str)) = false) (hcd : (x == ("__classdict__" : Str)) = false) (hi : i ∈ own) (hl : (apos.endLine == pos.line) = true)
    (na : a ≠ .no) (ha : SE G X cf own a ea) (hs : isStar ea = false) : SE G X cf own (.pop i a) (.Call (.Attribute (.Name x p) "pop" apos) [ea] [] pos) := by
  intro B T O η σ H Q R s
  rw [ev_pop] at s
  obtain ⟨d0, e0, s⟩ := okS s
  obtain ⟨e0, ds0, rfl⟩ := lstD_ok e0
  have e0 := rdr_ok e0
  obtain ⟨q, h1, h2, h3, hob⟩ := R.ow i _ e0 hi
  obtain ⟨xs0, h4, h5, h6⟩ := hob.lstE
  refine RE.of (pe_bm PySem.F.plainAttrs_list PySem.F.slot_list_pop PySem.F.type_list_pop (mt_popAt (X := X)) (pe_var hN hv hd hcd) (pa_cons (RE.pe ea) pa_nil (ns_of hs _ _)) rfl (by rw [ns_of hs]; rfl) hl (ns_of hs _ _) rfl) ?_
  refine ⟨_, h1, .inl ⟨rfl, xs0, SqL.of h4⟩, ?_⟩
  show RE X ea σ H fun v H1 => rPopAt (.ref q) [v] H1 Q
  rw [part_np na, bindA] at s
  refine one' ha R s fun n η1 O1 v H1 s1 i1 R1 f1 o1 => ?_
  rw [bindA] at s1
  obtain ⟨k, e2, s1⟩ := okS s1
  have e2 := dIntS e2
  subst e2
  have e3 := o1.int_of
  subst e3
  obtain ⟨d, e4, s1⟩ := okS (show Sat ((noer (rd (.inr i) η1)).bind _) _ _ from s1)
  have e4 := rdr_ok e4
  obtain ⟨y, e5, s1⟩ := okS s1
  obtain ⟨ds, rfl, e5⟩ := popK_lst e5
  obtain ⟨q', h1', _, _, hob'⟩ := R1.ow i _ e4 hi
  obtain ⟨xs, g4, g5, g6⟩ := hob'.lstE
  obtain rfl : q' = q := by rw [h1] at h1'; cases h1'; rfl
  obtain ⟨z, zs⟩ := y
  obtain ⟨j, h7, h8, bb, rfl⟩ := popD_some e5
  obtain ⟨u, h9, h10⟩ := g6.get h8
  have l := g6.length
  obtain ⟨R2, f2⟩ := R1.write e4 hi h1 (xs := xs.eraseIdx j) (by have := len_erase xs j; omega) (g6.erase j)
  exact ⟨q', xs, k, j, u, rfl, rfl, g4, by omega, by omega, by rw [l]; exact h7, h9, s1 O1 u _ i1 R2 (f1.trans i1 f2) (h10.fr f2 fun _ z => z)⟩
/-! ### xs[::-1] -/
section
variable {prog : Program} {w : World} {A : Around} {E : Value → Shared → Prop} {s : Shared}
theorem sa_back {sl : Addr} {n : Nat} {vs : Value} {Q : Int × Int × Nat → Shared → Prop} (hs : s.heap.IsSliceOf sl .none .none vs) (ps : IsPart vs (some (-1))) (h : Q ((n : Int) - 1, -1, n) s) :
    wpAny (model prog w) A (Builtin.Slice.sliceApplied (.ref sl) (pure (n : Int))) Q E s := by
  obtain ⟨os, hos, hcs, hds⟩ := id hs
  unfold Builtin.Slice.sliceApplied Builtin.Slice.sliceFields
  refine wpAny_bind (wpAny_bind (wpAny_field hos hds (x := .none) rfl (wpAny_bind (wpAny_field hos hds (x := .none) rfl (wpAny_bind (wpAny_field hos hds (x := vs) rfl (wpAny_pure ?_)))))))
  refine wpAny_bind (HT.slicePart_ ps ?_)
  show wpAny _ _ (if ((-1 : Int) == 0) = true then _ else _) _ _ s
  rw [if_neg (by decide)]
  refine wpAny_bind (PyProof.Rows.slicePart_none (wpAny_bind (PyProof.Rows.slicePart_none (wpAny_bind (wpAny_pure ?_)))))
  show wpAny _ _ (pure ((n : Int) - 1, (-1 : Int), Builtin.Slice.slicePlaces ((n : Int) - 1) (-1) (-1))) _ _ s
  have e : Builtin.Slice.slicePlaces ((n : Int) - 1) (-1) (-1) = n := by
    unfold Builtin.Slice.slicePlaces
    rw [if_neg (by decide)]
    by_cases z : (n : Int) - 1 > -1
    · rw [if_pos z, show -(-1 : Int) = 1 from rfl, Int.ediv_one]; omega
    · rw [if_neg z]; omega
  rw [e]
  exact wpAny_pure h
theorem pick_back (xs : Array Value) : ((List.range xs.size).filterMap fun (m : Nat) => xs[(((xs.size : Nat) : Int) - 1 + (m : Int) * -1).toNat]?).toArray = xs.toList.reverse.toArray := by
  congr 1
  have e : ∀ m ∈ List.range xs.size, xs[(((xs.size : Nat) : Int) - 1 + (m : Int) * -1).toNat]? = xs.toList.reverse[m]? := fun m hm => by
    have hm := List.mem_range.mp hm
    have e1 : (((xs.size : Nat) : Int) - 1 + (m : Int) * -1).toNat = xs.size - 1 - m := by omega
    rw [e1, List.getElem?_reverse (by simpa using hm)]
    simp
  have fc : ∀ {f g : Nat → Option Value} {l : List Nat}, (∀ m ∈ l, f m = g m) → l.filterMap f = l.filterMap g := by
    intro f g l h
    induction l with
    | nil => rfl
    | cons a l ih =>
      rw [List.filterMap_cons, List.filterMap_cons, h a (List.mem_cons_self ..), ih fun m hm => h m (List.mem_cons_of_mem _ hm)]
  rw [fc e]
  have l : xs.size = xs.toList.reverse.length := by simp
  rw [l]
  generalize xs.toList.reverse = ys
  induction ys with
  | nil => rfl
  | cons y ys ih =>
    rw [List.length_cons, List.range_succ_eq_map, List.filterMap_cons]
    show y :: _ = _
    rw [List.filterMap_map]
    congr 1
theorem gi_back {t sl : Addr} {items : Array Value} {vs : Value} {Q : Value → Shared → Prop} (ht : IsTup s.heap t items) (hs : s.heap.IsSliceOf sl .none .none vs) (ps : IsPart vs (some (-1)))
    (h : Q (.ref s.heap.objs.size) { s with heap := s.heap.push { cls := .type "tuple", data := .seq items.toList.reverse.toArray } })
    (hsz : items.size ≤ sizeLine) : wpAny (model prog w) A (getItem (.ref t) (.ref sl)) Q E s := by
  have htake : sizeOk (.seq items.toList.reverse.toArray) := by
    show items.toList.reverse.toArray.size ≤ sizeLine
    rw [List.size_toArray, List.length_reverse, Array.length_toList]
    exact hsz
  obtain ⟨os, hos, hcs, hds⟩ := id hs
  have hTs : s.TypeIs (.ref sl) "slice" := ⟨os, hos, hcs⟩
  unfold getItem
  try with_reducible refine wpAny_holding ?_
  first | refine wpAny_bind (wpAny_pure ?_) | skip
  refine wpAny_bind (wpAny_sequenceKey ht.typeIs (by decide) ?_)
  refine wpAny_bind (wpAny_callSpecial?_slot (name := Str.ofString "__getitem__") ht.typeIs PyProof.Rows.slot_tuple_getitem
    (wpAny_call_entry PyProof.Rows.slot_tuple_getitem ht.typeIs entry_tuple_getitem ?_ (args_tuple_getitem _ _)))
  show wpAny _ _ (Builtin.Tuple.tupleItemsOf (.ref t) >>= _) _ _ s
  refine wpAny_bind (tupleItemsOf_ ht ?_)
  refine wpAny_bind (wpAny_typeOf hTs ?_)
  rw [if_pos (by decide)]
  refine wpAny_bind (sa_back hs ps ?_)
  have hno : ¬ ((((items.size : Nat) : Int) - 1 == 0 && (-1 : Int) == 1 && items.size == items.size) = true) := by
    intro q
    rw [Bool.and_eq_true, Bool.and_eq_true] at q
    exact absurd (eq_of_beq q.1.2) (by decide)
  show wpAny _ _ (if (((items.size : Nat) : Int) - 1 == 0 && (-1 : Int) == 1 && items.size == items.size) = true then _ else _) _ _ s
  rw [if_neg hno, pick_back]
  first
    | exact wpAny_bind (m := Builtin.Tuple.tupleExact _) (wpAny_newObj_type (wpAny_pure ⟨_, rfl, wpAny_pure h⟩) htake)
    | exact wpAny_bind (m := Builtin.Tuple.tupleExact _) (wpAny_newObj_type (wpAny_bind (wpAny_pure (wpAny_pure ⟨_, rfl, wpAny_pure h⟩))) htake)
    | exact wpAny_bind (wpAny_bind (m := Builtin.Tuple.tupleExact _) (wpAny_newObj_type (wpAny_pure (wpAny_pure ⟨_, rfl, wpAny_pure h⟩)) htake))
    | exact wpAny_bind (wpAny_bind (m := Builtin.Tuple.tupleExact _) (wpAny_newObj_type (wpAny_pure ⟨_, rfl, wpAny_pure h⟩) htake))
end
def tRevA (K : PySem.W.Frag) (te : TE) : TE := fun σ H Q => te σ H fun x H1 => ∃ a xs, x = .ref a ∧ ((SqL K H1 a xs ∧ ∀ p, H1 p = none → Q (.ref p) (upd H1 p (.lst xs.reverse))) ∨ (SqT K H1 a xs ∧ ∀ p, H1 p = none → Q (.ref p) (upd H1 p (.tup xs.reverse))))
theorem pe_revA {e : Expr} {te : TE} {k : Nat} {p1 p2 p3 pos : Pos} (he : PE X e te) : PE X (.Subscript e (.Slice none none (some (.UnaryOp .USub (.Constant (.int 1) k p1) p2)) p3) pos) (tRevA X.K te) := by
  refine ⟨fun pins s σ H Q I h => ?_⟩
  refine Subscript_ (thn (he.run pins s σ H _ I h) fun v s1 ⟨x, H1, I1, r1, q1⟩ => ?_)
  obtain ⟨a, xs, ex, q1⟩ := q1
  subst ex
  cases r1
  have hst : PO X (some (.UnaryOp .USub (.Constant (.int 1) k p1) p2)) (tPart (tUn (rU fun i => .int (-i)) (tC (.int 1)))) := po_some (pe_un un_neg pe_int)
  refine wpAny_Slice ?_
  rw [evalPart_none]
  refine wpAny_pure (wpAny_pure ?_)
  refine thn (hst.run pins s1 σ H1 (fun o H4 => o = some (-1) ∧ H4 = H1) I1 ⟨1, rfl, -1, rfl, rfl, rfl⟩) fun vs s4 ⟨o, H4, I4, ps, eo, e4⟩ => ?_
  subst eo e4
  have I5 : Inv X pins σ H4 { s4 with heap := s4.heap.push { cls := .type "slice", data := .fields #[.none, .none, vs] } } := I4.kept (t' := s4.toks) fun b ob q => Heap.get?_push_of_some _ q
  show wpAny (model X.prog X.w) X.A (subscriptTail e (.Slice none none (some (.UnaryOp .USub (.Constant (.int 1) k p1) p2)) p3) (.ref a) (.ref s4.heap.objs.size)) (EP X pins σ Q) X.xe { s4 with heap := s4.heap.push { cls := .type "slice", data := .fields #[.none, .none, vs] } }
  rcases q1 with ⟨hx, q⟩ | ⟨hx, q⟩
  · obtain ⟨its, r, ht, hz⟩ := I5.list hx
    have hlen := r.length
    refine tail_any (ops := [.ref a, .ref s4.heap.objs.size]) ht.isList.typeIs (PySem.slot_list_getitem.lookup) ?_ (by with_unfolding_all rfl)
    refine wpAny_getItem_list_slice ht.isList (Heap.IsSliceOf.new _ .none .none vs) .none .none ps (by decide) ?_ (by rw [List.size_toArray]; omega)
    rw [PySem.W.krv_pick]
    refine ⟨.ref _, _, I5.laid (t' := s4.toks) (o := .lst xs.reverse) (fun b ob q => Heap.get?_push_of_some _ q) (Nat.le_refl _) ?_, rfl, q _ (I5.hok.fresh (Nat.le_refl _))⟩
    exact ⟨by rw [List.length_reverse]; exact hz, _, 0, r.reverse, Heap.get?_push_size _ rfl⟩
  · obtain ⟨its, r, ht, hz⟩ := I5.tuple hx
    have hlen := r.length
    refine tail_any (ops := [.ref a, .ref s4.heap.objs.size]) ht.typeIs (PyProof.Rows.slot_tuple_getitem.lookup) ?_ (by with_unfolding_all rfl)
    refine gi_back ht (Heap.IsSliceOf.new _ .none .none vs) ps ?_ (by rw [List.size_toArray]; omega)
    refine ⟨.ref _, _, I5.laid (t' := s4.toks) (o := .tup xs.reverse) (fun b ob q => Heap.get?_push_of_some _ q) (Nat.le_refl _) ?_, rfl, q _ (I5.hok.fresh (Nat.le_refl _))⟩
    exact ⟨by rw [List.length_reverse]; exact hz, _, r.reverse, IsTup.new _ _⟩
theorem se_rev {a : E} {ea : Expr} {k : Nat} {p1 p2 p3 pos : Pos} (ha : SO G X cf own a ea) : SE G X cf own (.rev a) (.Subscript ea (.Slice none none (some (.UnaryOp .USub (.Constant (.int 1) k p1) p2)) p3) pos) := by
  intro B T O η σ H Q R s
  simp only [ev] at s
  refine RE.of (pe_revA (RE.pe ea)) ?_
  refine one ha R s fun x η1 O1 v H1 s1 i1 R1 f1 o1 n1 => ?_
  obtain ⟨d, e1, s1⟩ := okS s1
  obtain ⟨z, e2, s1⟩ := okS s1
  have D1 := rd_ok R1 e1 o1 n1
  unfold revD at e2
  split at e2
  · cases e2
    obtain ⟨b, xs, rfl, h1, _, h2, h3⟩ := (D1.other fun _ z => nomatch z).tup_of
    refine ⟨b, xs, rfl, .inr ⟨SqT.of h1, fun p hp => ?_⟩⟩
    exact s1 O1 _ _ i1 (R1.same (Same.new hp)) (f1.trans i1 (Fr.new hp)) (R1.newT hp (by rw [List.length_reverse]; exact h2) h3.reverse)
  · cases e2
    obtain ⟨b, xs, rfl, h1, h2, h3⟩ := D1.lst
    refine ⟨b, xs, rfl, .inl ⟨SqL.of h1, fun p hp => ?_⟩⟩
    exact s1 O1 _ _ i1 (R1.same (Same.new hp)) (f1.trans i1 (Fr.new hp)) (R1.newL hp (by rw [List.length_reverse]; exact h2) h3.reverse)
  · cases e2
end
end Py
set_option Elab.async false
set_option linter.all false
set_option maxRecDepth 100000
set_option maxHeartbeats 1000000
/-! the place of a whole number in a row -/
namespace Py
open PySem PySem.Spec PyProof.Rows L2
theorem firstI_ok {k : Int} : ∀ {ns : List Int} {j : Nat}, firstI k ns = some j → ns[j]? = some k ∧ ∀ m, m < j → ns[m]? ≠ some k
  | [], j, h => by cases h
  | n :: ns, j, h => by
    simp only [firstI] at h
    by_cases c : n = k
    · rw [if_pos c] at h
      cases h
      exact ⟨by rw [c]; rfl, fun m z => by omega⟩
    · rw [if_neg c, Option.map_eq_some_iff] at h
      obtain ⟨i, hi, rfl⟩ := h
      obtain ⟨h1, h2⟩ := firstI_ok hi
      refine ⟨by simpa using h1, fun m hm => ?_⟩
      cases m with
      | zero => simpa using c
      | succ m => simpa using h2 m (by omega)
theorem flat_ints (ns : List Int) : (ns.map V.int).all flatV = true := by
  rw [List.all_map]
  exact List.all_eq_true.mpr fun _ _ => rfl
section
variable {G : Exi} {X : Cx} {cf : CF} {own : List Nat}
theorem mt_place : MtR X "list.index" (fun x xs H Q => ∃ (p : Addr) (ns : List Int) (k : Int) (j : Nat), x = .ref p ∧ xs = [.int k] ∧ SqL X.K H p (ns.map V.int) ∧ firstI k ns = some j ∧ Q (.int (j : Nat)) H) := by
  intro pins s σ H x xs v us Q I rx rs h
  obtain ⟨p, ns, k, j, rfl, rfl, hq, hf, q⟩ := h
  obtain ⟨h1, h2⟩ := firstI_ok hf
  refine mt_index pins s σ H _ _ v us Q I rx rs ⟨p, ns.map V.int, .int k, j, .int k, rfl, rfl, hq, rfl, flat_ints ns, by rw [List.getElem?_map, h1]; rfl, by show (k == k) = true; exact beq_self_eq_true k, fun m z' hm e => ?_, q⟩
  rw [List.getElem?_map, Option.map_eq_some_iff] at e
  obtain ⟨n, e1, rfl⟩ := e
  show (n == k) = false
  exact beq_eq_false_iff_ne.mpr fun z => h2 m hm (by rw [e1, z])
theorem seqK_ok {d : D} {u : Unit} (h : seqK d = .ok u) : ∃ xs, d = .lst xs := by cases d <;> first | exact ⟨_, rfl⟩ | cases h
theorem idx_ok {xs : List D} {y z : D} (h : idxD (.lst xs) y = .ok z) : ∃ ns k j, y = .int k ∧ intsOf xs = some ns ∧ firstI k ns = some j ∧ z = .int (j : Nat) := by
  unfold idxD at h
  cases y with
  | int k =>
    dsimp only at h
    split at h
    · rename_i ns e
      split at h
      · rename_i j e2
        cases h; exact ⟨ns, k, j, rfl, e, e2, rfl⟩
      · cases h
    · cases h
  | _ => cases h
/-- a.index(x) -/
theorem se_idx {a x : E} {ea ex : Expr} {apos cpos : Pos} (ha : SE G X cf own a ea) (hx : SE G X cf own x ex) (hs : isStar ex = false) (hb : attributeBase ea "index" X.env (eval ea X.env) = eval ea X.env) (hl : (apos.endLine == cpos.line) = true) :
    SE G X cf own (.idx a x) (.Call (.Attribute ea "index" apos) [ex] [] cpos) := by
  intro B T O η σ H Q R s
  simp only [ev] at s
  refine RE.of (pe_bm PySem.F.plainAttrs_list PySem.F.slot_list_index PySem.F.type_list_index (mt_place (X := X)) (RE.pe ea) (pa_cons (RE.pe ex) pa_nil (ns_of hs _ _)) hb (by rw [ns_of hs]; rfl) hl (ns_of hs _ _) rfl) ?_
  show RE X ea σ H fun v H1 => tyV X.K "list" v H1 ∧ RE X ex σ H1 fun u H2 => ∃ (p : Addr) (ns : List Int) (k : Int) (j : Nat), v = .ref p ∧ [u] = [V.int k] ∧ SqL X.K H2 p (ns.map V.int) ∧ firstI k ns = some j ∧ Q (.int (j : Nat)) H2
  refine one' ha R s fun d η1 O1 v H1 s1 i1 R1 f1 o1 => ?_
  obtain ⟨u0, e0, s1⟩ := okS s1
  obtain ⟨xs, rfl⟩ := seqK_ok e0
  obtain ⟨p, ys, rfl, h1, _, _⟩ := (DT.fr o1).lst
  refine ⟨.inl ⟨rfl, ys, SqL.of h1⟩, ?_⟩
  refine one' hx R1 s1 fun y η2 O2 u H2 s2 i2 R2 f2 o2 => ?_
  obtain ⟨z, e2, s2⟩ := okS s2
  obtain ⟨ns, k, j, rfl, e3, e4, rfl⟩ := idx_ok e2
  have e5 := o2.int_of
  subst e5
  obtain ⟨p', ys', ep, h2, _, h3⟩ := (DT.fr (o1.fr f2 i2)).lst
  cases ep
  obtain ⟨e6, _⟩ := ints_of e3 h3
  subst e6
  exact ⟨p, ns, k, j, rfl, rfl, SqL.of h2, e4, s2 O2 _ H2 (fun a z => i1 a (i2 a z)) R2 (f1.trans i1 f2) Da.int⟩
/-- range(n), kept -/
theorem cr_range1 : CallR X (.type "range") (fun vs H Q => ∃ j, vs = [V.int j] ∧ ∀ p, H p = none → Q (.ref p) (upd H p (.rng 0 j))) := by
  intro pins s σ H vs us Q I r h
  obtain ⟨j, rfl, q⟩ := h
  obtain ⟨u, rfl, rj⟩ := vals1 r
  obtain ⟨t, rfl⟩ := rj
  refine call_range_1 ⟨.ref s.heap.objs.size, upd H s.heap.objs.size (.rng 0 j), I.laid (t' := _) (fun b o e => Heap.get?_push_of_some _ e) (Nat.le_refl _) ?_, rfl, q _ (I.hok.fresh (Nat.le_refl _))⟩
  exact ⟨_, _, _, Heap.get?_push_size _ rfl⟩
theorem se_rgv {a : E} {ea : Expr} {p pos : Pos} (ha : SE G X cf own a ea) (hg : Gl X "range") (hm : X.mg "range" = none) (hs : isStar ea = false) : SE G X cf own (.rgv a) (.Call (.Name "range" p) [ea] [] pos) := by
  intro B T O η σ H Q R s
  simp only [ev] at s
  refine RE.of (pe_callTy cr_range1 hg hm boot_range (pa_cons (RE.pe ea) pa_nil (ns_of hs _ _)) (by decide) (by decide) (ns_of hs _ _) rfl) ?_
  show RE X ea σ H fun v H1 => ∃ j, [v] = [V.int j] ∧ ∀ p, H1 p = none → Q (.ref p) (upd H1 p (.rng 0 j))
  refine one' ha R s fun d η1 O1 v H1 s1 i1 R1 f1 o1 => ?_
  obtain ⟨j, e2, s1⟩ := okS s1
  have e2 := dIntS e2
  subst e2
  have e5 := o1.int_of
  subst e5
  refine ⟨j, rfl, fun p hp => s1 O1 _ _ i1 (R1.same (Same.new hp)) (f1.trans i1 (Fr.new hp)) ?_⟩
  simp only [Da]
  exact ⟨p, rfl, upd_same, R1.notO hp⟩
end
end Py
set_option Elab.async false
set_option linter.all false
set_option maxRecDepth 100000
set_option maxHeartbeats 1000000
namespace Py
open PySem PySem.Spec PyProof.Rows L2
section
variable {K : PySem.W.Frag} {own : List Nat} {B : Base} {T : List (Addr × D)} {O O' : Addr → Prop} {η : Env} {σ : L2.St} {H H' : Hp}
theorem Rep.nw (R : Rep K own B T O η σ H) {p : Addr} (h : H p = none) : B.H p = none ∨ B.M p := by
  cases e : B.H p with
  | none => exact .inl rfl
  | some o =>
    by_cases m : B.M p
    · exact .inr m
    · have := R.fr p o e m
      rw [h] at this; cases this
theorem Rep.nBO (R : Rep K own B T O η σ H) {p : Addr} (h : H p = none) : ¬ B.O p := fun z => R.notO h (R.base p z)
theorem Rep.push (R : Rep K own B T O η σ H) {p : Addr} {xs : List V} {ds : List D} (h : H p = none) (hl : xs.length ≤ LIM) (hd : DaL K H O ds xs) :
    Rep K own B ((p, .lst ds) :: T) (fun a => O a ∨ a = p) η σ (upd H p (.lst xs)) := R.pushT h (R.nw h) (R.nBO h) hl hd
theorem Rep.pushO (R : Rep K own B T O η σ H) {p : Addr} {d1 : D} {o1 : HO} {xs : List V} {ds : List D} (hsh : Sh d1 ds o1 xs) (h : H p = none) (hl : xs.length ≤ LIM) (hd : DaL K H O ds xs) :
    Rep K own B ((p, d1) :: T) (fun a => O a ∨ a = p) η σ (upd H p o1) := R.pushTO hsh h (R.nw h) (R.nBO h) hl hd
/-- a place forgotten, with its slot or without -/
theorem Rep.kill (R : Rep K own B T O η σ H) (i : Nat) {σ' : L2.St} (hs : ∀ j, j ≠ i → σ'[j]? = σ[j]?) (hl : σ'.length = σ.length) : Rep K own B T O (η.set i none) σ' H := by
  refine ⟨by rw [List.length_set, hl]; exact R.len, fun j d e n => ?_, fun j d e n => ?_, R.tm, fun j k d d' q hj hk e1 e2 e3 e4 => ?_, fun j d q d' hj e1 e2 => ?_, fun j d q hj hk e1 e2 => ?_, R.nbT, R.ndt, R.base, R.tr, R.fr⟩
  · obtain ⟨ne, e⟩ := get_set_none e
    rw [hs j ne]; exact R.sh j d e n
  · obtain ⟨ne, e⟩ := get_set_none e
    rw [hs j ne]; exact R.ow j d e n
  · obtain ⟨n1, e1⟩ := get_set_none e1
    obtain ⟨n2, e2⟩ := get_set_none e2
    rw [hs j n1] at e3; rw [hs k n2] at e4
    exact R.ap j k d d' q hj hk e1 e2 e3 e4
  · obtain ⟨n1, e1⟩ := get_set_none e1
    rw [hs j n1] at e2
    exact R.apt j d q d' hj e1 e2
  · obtain ⟨n1, e1⟩ := get_set_none e1
    rw [hs j n1] at e2
    exact R.nb j d q hj hk e1 e2
theorem wipe_get (σ : L2.St) : ∀ (vs : List Nat) (j : Nat), (wipe σ vs)[j]? = if j ∈ vs ∧ j < σ.length then some none else σ[j]?
  | [], j => by unfold wipe; rw [if_neg (fun z => nomatch z.1)]
  | v :: vs, j => by
    unfold wipe
    by_cases e : j = v
    · subst e
      by_cases l : j < σ.length
      · rw [List.getElem?_set_self (by rw [wipe_length]; exact l), if_pos ⟨List.mem_cons_self .., l⟩]
      · rw [List.getElem?_eq_none (by rw [List.length_set, wipe_length]; omega), if_neg (fun z => l z.2), List.getElem?_eq_none (by omega)]
    · rw [List.getElem?_set_ne (Ne.symm e), wipe_get σ vs j]
      by_cases c : j ∈ vs ∧ j < σ.length
      · rw [if_pos c, if_pos ⟨List.mem_cons_of_mem _ c.1, c.2⟩]
      · rw [if_neg c, if_neg (fun z => c ⟨(List.mem_cons.mp z.1).resolve_left e, z.2⟩)]
theorem wipe_eq {σ σ' : L2.St} {vs : List Nat} (hl : σ'.length = σ.length) (h : ∀ j, j ∉ vs → σ'[j]? = σ[j]?) : wipe σ' vs = wipe σ vs := by
  apply List.ext_getElem?
  intro j
  rw [wipe_get, wipe_get, hl]
  by_cases c : j ∈ vs
  · by_cases l : j < σ.length
    · rw [if_pos ⟨c, l⟩, if_pos ⟨c, l⟩]
    · rw [if_neg (fun z => l z.2), if_neg (fun z => l z.2), List.getElem?_eq_none (by omega), List.getElem?_eq_none (by omega)]
  · rw [if_neg (fun z => c z.1), if_neg (fun z => c z.1)]
    exact h j c
theorem Rep.wipe (R : Rep K own B T O η σ H) : ∀ vs : List Nat, Rep K own B T O (killE η vs) (L2.wipe σ vs) H
  | [] => R
  | v :: vs => by
    unfold killE L2.wipe
    exact (Rep.wipe R vs).kill v (fun j n => by rw [List.getElem?_set_ne (Ne.symm n)]) (by rw [List.length_set])
theorem killE_get (η : Env) : ∀ (vs : List Nat) (j : Nat), (killE η vs)[j]? = if j ∈ vs ∧ j < η.length then some none else η[j]?
  | [], j => by unfold killE; rw [if_neg (fun z => nomatch z.1)]
  | v :: vs, j => by
    have len : ∀ vs : List Nat, (killE η vs).length = η.length := fun vs => by
      induction vs with
      | nil => rfl
      | cons v vs ih => unfold killE; rw [List.length_set, ih]
    unfold killE
    by_cases e : j = v
    · subst e
      by_cases l : j < η.length
      · rw [List.getElem?_set_self (by rw [len]; exact l), if_pos ⟨List.mem_cons_self .., l⟩]
      · rw [List.getElem?_eq_none (by rw [List.length_set, len]; omega), if_neg (fun z => l z.2), List.getElem?_eq_none (by omega)]
    · rw [List.getElem?_set_ne (Ne.symm e), killE_get η vs j]
      by_cases c : j ∈ vs ∧ j < η.length
      · rw [if_pos c, if_pos ⟨List.mem_cons_of_mem _ c.1, c.2⟩]
      · rw [if_neg c, if_neg (fun z => c ⟨(List.mem_cons.mp z.1).resolve_left e, z.2⟩)]
/-- a name bound -/
theorem Rep.put (R : Rep K own B T O η σ H) {i : Nat} {d : D} {v : V} (hi : i ∉ own) (hd : Da K H O d v) : Rep K own B T O (η.set i (some d)) (σ.set i (some v)) H := by
  have back : ∀ j d', j ≠ i → (η.set i (some d))[j]? = some (some d') → η[j]? = some (some d') := fun j d' ne q => by
    rw [List.getElem?_set_ne (Ne.symm ne)] at q; exact q
  have sg : ∀ j, j ≠ i → (σ.set i (some v))[j]? = σ[j]? := fun j n => by rw [List.getElem?_set_ne (Ne.symm n)]
  have ne : ∀ j, j ∈ own → j ≠ i := fun j hj z => hi (z ▸ hj)
  refine ⟨by rw [List.length_set, List.length_set]; exact R.len, fun j d' e n => ?_, fun j d' e n => ?_, R.tm, fun j k d1 d2 q hj hk e1 e2 e3 e4 => ?_, fun j d1 q d2 hj e1 e2 => ?_, fun j d1 q hj hk e1 e2 => ?_, R.nbT, R.ndt, R.base, R.tr, R.fr⟩
  · by_cases z : j = i
    · subst z
      have lt : j < η.length := by
        have := (List.getElem?_eq_some_iff.mp e).1
        rwa [List.length_set] at this
      rw [List.getElem?_set_self lt] at e
      cases e
      exact ⟨v, by rw [List.getElem?_set_self (by rw [← R.len]; exact lt)], hd⟩
    · rw [sg j z]
      exact R.sh j d' (back j d' z e) n
  · rw [sg j (ne j n)]
    exact R.ow j d' (back j d' (ne j n) e) n
  · rw [sg j (ne j hj)] at e3; rw [sg k (ne k hk)] at e4
    exact R.ap j k d1 d2 q hj hk (back j d1 (ne j hj) e1) (back k d2 (ne k hk) e2) e3 e4
  · rw [sg j (ne j hj)] at e2
    exact R.apt j d1 q d2 hj (back j d1 (ne j hj) e1) e2
  · rw [sg j (ne j hj)] at e2
    exact R.nb j d1 q hj hk (back j d1 (ne j hj) e1) e2
/-- an own place takes a temporary list -/
theorem Rep.take (R : Rep K own B ((p, d) :: T) O η σ H) {i : Nat} (hi : i ∈ own) {σ' : L2.St} (hs : ∀ j, j ≠ i → σ'[j]? = σ[j]?) (hl : σ'.length = σ.length) (hp : i < σ.length → σ'[i]? = some (some (.ref p))) : Rep K own B T O (η.set i (some d)) σ' H := by
  obtain ⟨h2, h3, h4⟩ := R.tm p d (List.mem_cons_self ..)
  have nd := R.ndt
  rw [List.map_cons, List.nodup_cons] at nd
  have back : ∀ j d', j ≠ i → (η.set i (some d))[j]? = some (some d') → η[j]? = some (some d') := fun j d' ne q => by
    rw [List.getElem?_set_ne (Ne.symm ne)] at q; exact q
  have self : ∀ d', (η.set i (some d))[i]? = some (some d') → d' = d ∧ σ'[i]? = some (some (.ref p)) := fun d' q => by
    have lt : i < η.length := by
      have := (List.getElem?_eq_some_iff.mp q).1
      rwa [List.length_set] at this
    rw [List.getElem?_set_self lt] at q
    cases q
    exact ⟨rfl, hp (by rw [← R.len]; exact lt)⟩
  refine ⟨by rw [List.length_set, hl]; exact R.len, fun j d' e n => ?_, fun j d' e n => ?_, fun q d' z => R.tm q d' (List.mem_cons_of_mem _ z), fun j k d1 d2 q hj hk e1 e2 e3 e4 => ?_, fun j d1 q d2 hj e1 e2 z => ?_, fun j d1 q hj hk e1 e2 => ?_, fun q d' z => R.nbT q d' (List.mem_cons_of_mem _ z), nd.2, R.base, R.tr, R.fr⟩
  · have ne : j ≠ i := fun z => n (z ▸ hi)
    rw [hs j ne]
    exact R.sh j d' (back j d' ne e) n
  · by_cases ne : j = i
    · subst ne
      obtain ⟨rfl, e2⟩ := self d' e
      exact ⟨p, e2, h2, h3, h4⟩
    · rw [hs j ne]
      exact R.ow j d' (back j d' ne e) n
  · by_cases z1 : j = i
    · by_cases z2 : k = i
      · rw [z1, z2]
      · subst z1
        obtain ⟨_, e5⟩ := self d1 e1
        rw [e5] at e3; cases e3
        rw [hs k z2] at e4
        exact absurd (List.mem_cons_self ..) (R.apt k d2 _ d hk (back k d2 z2 e2) e4)
    · by_cases z2 : k = i
      · subst z2
        obtain ⟨_, e5⟩ := self d2 e2
        rw [e5] at e4; cases e4
        rw [hs j z1] at e3
        exact absurd (List.mem_cons_self ..) (R.apt j d1 _ d hj (back j d1 z1 e1) e3)
      · rw [hs j z1] at e3; rw [hs k z2] at e4
        exact R.ap j k d1 d2 q hj hk (back j d1 z1 e1) (back k d2 z2 e2) e3 e4
  · by_cases z1 : j = i
    · subst z1
      obtain ⟨_, e5⟩ := self d1 e1
      rw [e5] at e2; cases e2
      exact nd.1 (List.mem_map.mpr ⟨(p, d2), z, rfl⟩)
    · rw [hs j z1] at e2
      exact R.apt j d1 q d2 hj (back j d1 z1 e1) e2 (List.mem_cons_of_mem _ z)
  · by_cases z1 : j = i
    · subst z1
      obtain ⟨_, e5⟩ := self d1 e1
      rw [e5] at e2; cases e2
      exact R.nbT p d (List.mem_cons_self ..)
    · rw [hs j z1] at e2
      exact R.nb j d1 q hj hk (back j d1 z1 e1) e2
/-- an own place that is walked over -/
theorem Rep.lock (R : Rep K own B T O η σ H) {i : Nat} {d : D} (e : η[i]? = some (some d)) (hi : i ∈ own) (h0 : i ≠ 0) : ∃ p, σ[i]? = some (some (.ref p)) ∧ Rep K own B ((p, d) :: T) O (η.set i none) σ H := by
  obtain ⟨p, h1, h2, h3, h4⟩ := R.ow i d e hi
  have R2 := R.kill i (σ' := σ) (fun _ _ => rfl) rfl
  refine ⟨p, h1, R2.len, R2.sh, R2.ow, fun q d' z => ?_, R2.ap, fun j d1 q d2 hj e1 e2 z => ?_, R2.nb, fun q d' z => ?_, ?_, R.base, R.tr, R.fr⟩
  · rcases List.mem_cons.mp z with z | z
    · cases z; exact ⟨h2, h3, h4⟩
    · exact R.tm q d' z
  · rcases List.mem_cons.mp z with z | z
    · cases z
      obtain ⟨ne, e1⟩ := get_set_none e1
      exact ne (R.ap j i d1 d _ hj hi e1 e e2 h1)
    · exact R2.apt j d1 q d2 hj e1 e2 z
  · rcases List.mem_cons.mp z with z | z
    · cases z; exact R.nb i d _ hi (fun y => h0 (B.hP i y)) e h1
    · exact R.nbT q d' z
  · rw [List.map_cons, List.nodup_cons]
    refine ⟨fun z => ?_, R.ndt⟩
    obtain ⟨⟨q, d'⟩, hq, e2⟩ := List.mem_map.mp z
    have e2 : q = p := e2
    exact R.apt i d p d' hi e h1 (e2 ▸ hq)
/-- a temporary list, as if it were not yet there -/
def gone (H : Hp) (p : Addr) : Hp := fun a => if a = p then none else H a
theorem gone_back {p : Addr} {o : HO} (h : H p = some o) : upd (gone H p) p o = H := by
  funext a
  by_cases e : a = p
  · subst e; rw [upd_same, h]
  · rw [upd_ne e]; unfold gone; rw [if_neg e]
theorem Rep.unpushO {d : D} (R : Rep K own B ((p, d) :: T) O η σ H) : ∃ O' o xs ds, Sh d ds o xs ∧ (∀ a, O' a → O a) ∧ (∀ a, O a → a ≠ p → O' a) ∧ ¬ O' p ∧ Rep K own B T O' η σ (gone H p) ∧ gone H p p = none ∧ upd (gone H p) p o = H ∧ xs.length ≤ LIM ∧ DaL K (gone H p) O' ds xs := by
  obtain ⟨h2, h3, h4⟩ := R.tm p d (List.mem_cons_self ..)
  have f : ∀ a o, H a = some o → ¬ O a → gone H p a = some o ∧ ¬ (O a ∧ a ≠ p) := fun a o e n => by
    refine ⟨?_, fun z => n z.1⟩
    have ne : a ≠ p := fun z => n (z ▸ h2)
    unfold gone; rw [if_neg ne]; exact e
  have gn : ∀ a, a ≠ p → gone H p a = H a := fun a n => by unfold gone; rw [if_neg n]
  have ob : ∀ q d, q ≠ p → Ob K H O q d → Ob K (gone H p) (fun a => O a ∧ a ≠ p) q d := fun q d n z => Ob.to f (gn q n) z
  have nd := R.ndt
  rw [List.map_cons, List.nodup_cons] at nd
  obtain ⟨oo, xs, ds, hsh, z1, z2, z3⟩ := h4
  refine ⟨fun a => O a ∧ a ≠ p, oo, xs, ds, hsh, fun a z => z.1, fun a z n => ⟨z, n⟩, fun z => z.2 rfl, ⟨R.len, fun j d' e' n => ?_, fun j d' e' n => ?_, fun q d' e' => ?_, R.ap, fun j d' q d'' hj e1 e2 z => R.apt j d' q d'' hj e1 e2 (List.mem_cons_of_mem _ z), R.nb, fun q d' z => R.nbT q d' (List.mem_cons_of_mem _ z), nd.2, fun a z => ⟨R.base a z, fun y => R.nbT p _ (List.mem_cons_self ..) (y ▸ z)⟩, fun a z => ?_, fun a o e na => ?_⟩, ?_, gone_back z1, z2, DaL.to f ds xs z3⟩
  · obtain ⟨v, y1, y2⟩ := R.sh j d' e' n
    exact ⟨v, y1, Da.to f d' v y2⟩
  · obtain ⟨q, y1, y2, y3, y4⟩ := R.ow j d' e' n
    have ne : q ≠ p := fun y => R.apt j d' q d n e' y1 (by rw [y]; exact List.mem_cons_self ..)
    exact ⟨q, y1, ⟨y2, ne⟩, y3, ob q d' ne y4⟩
  · obtain ⟨y2, y3, y4⟩ := R.tm q d' (List.mem_cons_of_mem _ e')
    have ne : q ≠ p := fun y => nd.1 (List.mem_map.mpr ⟨(q, d'), e', y⟩)
    exact ⟨⟨y2, ne⟩, y3, ob q d' ne y4⟩
  · obtain ⟨o, e⟩ := R.tr a z.1
    exact ⟨o, (gn a z.2).trans e⟩
  · have ne : a ≠ p := fun y => by
      rcases h3 with h3 | h3
      · rw [y, h3] at e; cases e
      · exact na (y ▸ h3)
    exact (gn a ne).trans (R.fr a o e na)
  · unfold gone; rw [if_pos rfl]
theorem Rep.unpush {ds : List D} (R : Rep K own B ((p, .lst ds) :: T) O η σ H) : ∃ O' xs, (∀ a, O' a → O a) ∧ (∀ a, O a → a ≠ p → O' a) ∧ ¬ O' p ∧ Rep K own B T O' η σ (gone H p) ∧ gone H p p = none ∧ upd (gone H p) p (.lst xs) = H ∧ xs.length ≤ LIM ∧ DaL K (gone H p) O' ds xs := by
  obtain ⟨O', o, xs, ds', hs, r⟩ := R.unpushO
  rcases hs with ⟨e, rfl⟩ | ⟨_, e, _⟩
  · cases e; exact ⟨O', xs, r⟩
  · cases e
theorem Rep.unpushD {ks : List Int} {ds : List D} (R : Rep K own B ((p, .dc ks ds) :: T) O η σ H) : ∃ O' xs, (∀ a, O' a → O a) ∧ (∀ a, O a → a ≠ p → O' a) ∧ ¬ O' p ∧ Rep K own B T O' η σ (gone H p) ∧ gone H p p = none ∧ upd (gone H p) p (.dK (kvz ks xs)) = H ∧ xs.length ≤ LIM ∧ DaL K (gone H p) O' ds xs ∧ ks.length = ds.length := by
  obtain ⟨O', o, xs, ds', hs, r1, r2, r3, r4, r5, r6, r7, r8⟩ := R.unpushO
  rcases hs with ⟨e, _⟩ | ⟨_, e, hk, rfl⟩
  · cases e
  · cases e; exact ⟨O', xs, r1, r2, r3, r4, r5, r6, r7, r8, hk⟩
end
/-! ### targets -/
section
variable {G : Exi} {X : Cx} {cf : CF} {own : List Nat}
def RG (X : Cx) (tg : Expr) : TG := fun v σ H Q => ∀ (pins : List (Addr × Obj)) (s : Shared) (u : Value), Inv X pins σ H s → RelV v u → wpAny (model X.prog X.w) X.A (assign tg X.env u) (fun _ s' => ∃ σ' H', Inv X pins σ' H' s' ∧ Q σ' H') X.xe s
theorem RG.pg (tg : Expr) : PG X tg (RG X tg) := ⟨fun pins s σ H v u Q I r h => h pins s u I r⟩
theorem RG.of {tg : Expr} {t : TG} (h : PG X tg t) {v : V} {σ : L2.St} {H : Hp} {Q : L2.St → Hp → Prop} (q : t v σ H Q) : RG X tg v σ H Q := fun pins s u I r => h.run pins s σ H v u Q I r q
mutual
def TgR (X : Cx) (own : List Nat) : Tg → Expr → Prop
  | .name i, e => ∃ x p, e = .Name x p ∧ X.N[i]? = some x ∧ Loc X.env.scope x ∧ (X.fn x = true ∨ X.env.scope.names.lookup x = some .local) ∧ i ∉ own
  | .tup ts, e => ∃ es k p, e = .Tuple es k p ∧ TgRs X own ts es
def TgRs (X : Cx) (own : List Nat) : List Tg → List Expr → Prop
  | [], es => es = []
  | t :: ts, es => ∃ e r, es = e :: r ∧ TgR X own t e ∧ TgRs X own ts r
end
mutual
theorem TgR.plain : ∀ (t : Tg) (e : Expr), TgR X own t e → (∃ x p, e = .Name x p) ∨ ∃ es k p, e = .Tuple es k p
  | .name i, e, h => by simp only [TgR] at h; obtain ⟨x, p, rfl, _⟩ := h; exact .inl ⟨x, p, rfl⟩
  | .tup ts, e, h => by simp only [TgR] at h; obtain ⟨es, k, p, rfl, _⟩ := h; exact .inr ⟨es, k, p, rfl⟩
end
theorem TgR.each {t : Tg} {e : Expr} (h : TgR X own t e) (es : List Expr) (env : PySem.Env) : assignEach (e :: es) env = (false, assign e env) :: assignEach es env := by
  rcases TgR.plain t e h with ⟨x, p, rfl⟩ | ⟨es, k, p, rfl⟩ <;> rfl
theorem TgRs.len : ∀ {ts : List Tg} {es : List Expr}, TgRs X own ts es → (assignEach es X.env).length = ts.length ∧ (assignEach es X.env).findIdx? (·.1) = none
  | [], es, h => by simp only [TgRs] at h; subst h; exact ⟨rfl, rfl⟩
  | t :: ts, es, h => by
    simp only [TgRs] at h
    obtain ⟨e, r, rfl, h1, h2⟩ := h
    obtain ⟨l1, l2⟩ := TgRs.len h2
    rw [h1.each]
    refine ⟨by rw [List.length_cons, List.length_cons, l1], ?_⟩
    rw [List.findIdx?_cons, l2]
    rfl
def RGs (X : Cx) (es : List Expr) : TGs := fun vs σ H Q => ∀ (pins : List (Addr × Obj)) (s : Shared) (us : List Value), Inv X pins σ H s → Vals vs us → wpAny (model X.prog X.w) X.A (assignInOrder ((assignEach es X.env).map (·.2)) us) (fun _ s' => ∃ σ' H', Inv X pins σ' H' s' ∧ Q σ' H') X.xe s
theorem RGs.pgs (es : List Expr) : PGs X es (RGs X es) := ⟨fun pins s σ H vs us Q I r h => h pins s us I r⟩
theorem RGs.of {es : List Expr} {t : TGs} (h : PGs X es t) {vs : List V} {σ : L2.St} {H : Hp} {Q : L2.St → Hp → Prop} (q : t vs σ H Q) : RGs X es vs σ H Q := fun pins s us I r => h.run pins s σ H vs us Q I r q
mutual
theorem bind_ok {B : Base} {T : List (Addr × D)} {O : Addr → Prop} {H : Hp} (hc : X.calm = true) (hN : X.N.Nodup) : ∀ (t : Tg) (e : Expr) (d : D) (v : V) (η η' : Env) (σ : L2.St) (Q : L2.St → Hp → Prop), TgR X own t e → bindT t d η = .ok η' → Da X.K H O d v → Rep X.K own B T O η σ H →
    (∀ σ', Rep X.K own B T O η' σ' H → (∀ j, j ∉ tgSlots t → σ'[j]? = σ[j]?) → σ'.length = σ.length → Q σ' H) → RG X e v σ H Q
  | .name i, e, d, v, η, η', σ, Q, h, hb, hd, R, k => by
    simp only [TgR] at h
    obtain ⟨x, p, rfl, h1, h2, h3, h4⟩ := h
    simp only [bindT] at hb
    cases hb
    exact RG.of (pg_name hN h1 h2 h3) (k _ (R.put h4 hd) (fun j n => by rw [List.getElem?_set_ne]; intro z; exact n (by simp [tgSlots, z])) (by rw [List.length_set]))
  | .tup ts, e, d, v, η, η', σ, Q, h, hb, hd, R, k => by
    simp only [TgR] at h
    obtain ⟨es, kk, p, rfl, h⟩ := h
    cases d with
    | tup xs =>
      simp only [bindT] at hb
      obtain ⟨a, vs, rfl, h1, _, h2, h3⟩ := hd.tup_of
      obtain ⟨l1, l2⟩ := TgRs.len h
      refine RG.of (pg_tup hc (RGs.pgs es) l1 l2) ⟨a, vs, rfl, SqT.of h1, ?_, ?_⟩
      · rw [h3.length]
        exact (bindTs_len ts xs η η' hb).symm
      · exact binds_ok hc hN ts es xs vs η η' σ Q h hb h3 R fun σ' R' z l => k σ' R' (fun j n => z j (by simpa only [tgSlots] using n)) l
    | _ => simp only [bindT] at hb; cases hb
theorem binds_ok {B : Base} {T : List (Addr × D)} {O : Addr → Prop} {H : Hp} (hc : X.calm = true) (hN : X.N.Nodup) : ∀ (ts : List Tg) (es : List Expr) (ds : List D) (vs : List V) (η η' : Env) (σ : L2.St) (Q : L2.St → Hp → Prop), TgRs X own ts es → bindTs ts ds η = .ok η' → DaL X.K H O ds vs → Rep X.K own B T O η σ H →
    (∀ σ', Rep X.K own B T O η' σ' H → (∀ j, j ∉ tgsSlots ts → σ'[j]? = σ[j]?) → σ'.length = σ.length → Q σ' H) → RGs X es vs σ H Q
  | [], es, ds, vs, η, η', σ, Q, h, hb, hd, R, k => by
    simp only [TgRs] at h
    subst h
    cases ds with
    | nil =>
      simp only [bindTs] at hb
      cases hb
      simp only [DaL] at hd
      exact RGs.of pgs_nil ⟨hd, k σ R (fun _ _ => rfl) rfl⟩
    | cons d ds => simp only [bindTs] at hb; cases hb
  | t :: ts, es, ds, vs, η, η', σ, Q, h, hb, hd, R, k => by
    simp only [TgRs] at h
    obtain ⟨e, r, rfl, h1, h2⟩ := h
    cases ds with
    | nil => simp only [bindTs] at hb; cases hb
    | cons d ds =>
      simp only [bindTs] at hb
      obtain ⟨η1, e1, e2⟩ := bindOk hb
      simp only [DaL] at hd
      obtain ⟨v, us, rfl, z1, z2⟩ := hd
      refine RGs.of (pgs_cons (RG.pg e) (RGs.pgs r) (by rw [h1.each]; rfl)) ⟨v, us, rfl, ?_⟩
      refine bind_ok hc hN t e d v η η1 σ _ h1 e1 z1 R fun σ1 R1 y1 l1 => ?_
      refine binds_ok hc hN ts r ds us η1 η' σ1 Q h2 e2 z2 R1 fun σ2 R2 y2 l2 => ?_
      refine k σ2 R2 (fun j n => ?_) (l2.trans l1)
      have n : j ∉ tgSlots t ∧ j ∉ tgsSlots ts := by simpa only [tgsSlots, List.mem_append, not_or] using n
      exact (y2 j n.2).trans (y1 j n.1)
theorem bindTs_len : ∀ (ts : List Tg) (xs : List D) (η η' : Env), bindTs ts xs η = .ok η' → ts.length = xs.length
  | [], [], η, η', h => rfl
  | [], x :: xs, η, η', h => by simp only [bindTs] at h; cases h
  | t :: ts, [], η, η', h => by simp only [bindTs] at h; cases h
  | t :: ts, x :: xs, η, η', h => by
    simp only [bindTs] at h
    obtain ⟨η1, _, e2⟩ := bindOk h
    rw [List.length_cons, List.length_cons, bindTs_len ts xs η1 η' e2]
end
end
end Py
set_option Elab.async false
set_option linter.all false
set_option maxRecDepth 100000
set_option maxHeartbeats 1000000
/-! enumerate(t), t a tuple -/
namespace Py
open PySem PySem.Spec PyProof.Rows L2
theorem new_enumT (t : Addr) (items : Array Value) :
    Meets (Builtin.«enumerate.__new__» ⟨[.type "enumerate", .ref t], []⟩) (fun _ R s => s.heap.IsTuple t items ∧
      R (.ok (.ret (.ref (s.heap.push { cls := .type "tuple_iterator", data := .fields #[.ref t, .int 0 0] }).objs.size)))
        { s with heap := (s.heap.push { cls := .type "tuple_iterator", data := .fields #[.ref t, .int 0 0] }).push { cls := .type "enumerate", data := .fields #[.none, .bool false, .ref s.heap.objs.size, rawInt 0, .none, .none] } }) :=
  .of_wp fun prog w A R s h => by
    obtain ⟨hp, g, d, tk, os⟩ := s; obtain ⟨h1, h⟩ := h
    have hsub := sub_enumerate
    have q1 : ∀ {A' : Around} {E : Value → Shared → Prop} {Q : Value → Shared → Prop}, Q (.ref hp.objs.size) ⟨hp.push { cls := .type "tuple_iterator", data := .fields #[.ref t, .int 0 0] }, g, d, tk, os⟩ → wpAny (model prog w) A' (pyIter (.ref t)) Q E ⟨hp, g, d, tk, os⟩ :=
      fun q => wpAny_pyIter_tuple (s := ⟨hp, g, d, tk, os⟩) h1 q
    wp_walk using q1
    refine wpAny_stack_any fun st => wpAny_pure ?_
    split
    · rename_i c _ _ _ _ _
      cases (c == Value.type "enumerate")
      · wp_walk using q1
        exact ⟨_, rfl, h⟩
      · wp_walk using q1
        exact ⟨_, rfl, h⟩
    · wp_walk using q1
      exact ⟨_, rfl, h⟩
section
variable {prog : Program} {w : World} {A : Around} {E : Value → Shared → Prop} {s : Shared}
theorem call_enumT {t : Addr} {items : Array Value} {Q : Value → Shared → Prop} (hT : s.heap.IsTuple t items)
    (h : ∀ h', IsEnum h' (s.heap.objs.size + 1) s.heap.objs.size 0 .none → h'.IsTupleIter s.heap.objs.size t 0 → h'.objs.size = s.heap.objs.size + 2 →
      (∀ b o, s.heap.get? b = some o → h'.get? b = some o) → Q (.ref (s.heap.objs.size + 1)) { s with heap := h' }) :
    wpAny (model prog w) A (call (.type "enumerate") [.ref t]) Q E s := by
  refine callType_new F.called_enumerate (by decide) (F.typeCall_enumerate_1 _) (F.newCall_enumerate_1 _) (fun obj => F.args_object_init_2 obj _) F.entry_enumerate_new
    (new_enumT t items) ⟨hT, ?_⟩
  have hz : (s.heap.push { cls := .type "tuple_iterator", data := .fields #[.ref t, .int 0 0] }).objs.size = s.heap.objs.size + 1 := Heap.size_push ..
  show _ ∧ _
  rw [hz]
  have he : IsEnum ((s.heap.push { cls := .type "tuple_iterator", data := .fields #[.ref t, .int 0 0] }).push
      { cls := .type "enumerate", data := .fields #[.none, .bool false, .ref s.heap.objs.size, rawInt 0, .none, .none] }) (s.heap.objs.size + 1) s.heap.objs.size 0 .none := by
    have := Heap.get?_push_size (s.heap.push { cls := .type "tuple_iterator", data := .fields #[.ref t, .int 0 0] })
      (o := { cls := .type "enumerate", data := .fields #[.none, .bool false, .ref s.heap.objs.size, rawInt 0, .none, .none] }) rfl
    rw [hz] at this; exact this
  exact ⟨⟨_, he, rfl⟩, h _ he ⟨_, Heap.get?_push_of_some _ (Heap.get?_push_size _ rfl), rfl, rfl⟩ (by rw [Heap.size_push, hz]) fun b o x => Heap.get?_push_of_some _ (Heap.get?_push_of_some _ x)⟩
end
/-- the tuple at a, each item in a new pair -/
def IteT (K : PySem.W.Frag) (a : Addr) : It :=
  ⟨fun i H => ∃ (xs : List V) (x : V), SqT K H a xs ∧ xs[i]? = some x, fun i H v H' => ∃ T x, v = .ref T ∧ H T = none ∧ H' = upd H T (.tup [.int (i : Nat), x]) ∧ ∀ xs, SqT K H a xs → xs[i]? = some x, fun i H => ∃ xs : List V, SqT K H a xs ∧ xs.length = i⟩
theorem turn_enumT {P : Program} {w : World} {K : PySem.W.Frag} {elts : List Expr} {kk : Nat} {tpos : Pos} (a e it : Addr) :
    Turn P w K (.Tuple elts kk tpos) (IteT K a) [e, it] e (fun i h => (∃ old, IsEnum h e it ((i : Nat) : Int) old) ∧ h.IsTupleIter it a i ∧ e ≠ it ∧ a ≠ it ∧ e ≠ a) where
  mem := by simp
  obj := fun i h st b hb => by
    obtain ⟨⟨old, he⟩, ⟨o, ho, hc, hd⟩, _⟩ := st
    have e' : b = e ∨ b = it := by simpa using hb
    rcases e' with z | z
    · rw [z]; exact ⟨_, he, fun v q => nomatch q⟩
    · rw [z]; exact ⟨o, ho, fun v q => by rw [hd] at q; cases q⟩
  keep := fun i h h' st k => let ⟨⟨old, he⟩, hi, hne⟩ := st; ⟨⟨old, k e (by simp) _ he⟩, hi.at fun o q => k it (by simp) o q, hne⟩
  item := by
    intro X hP hw hK hc i pins s σ H E I hf st hg
    subst hP hw hK
    obtain ⟨⟨old, he⟩, hit, hne, hai, hea⟩ := st
    obtain ⟨xs, x, hq, hx⟩ := hg
    obtain ⟨its, rv, p, hz⟩ := I.tuple hq
    obtain ⟨u, hu, ru⟩ := rv.get hx
    have hel : e < s.heap.objs.size := Heap.lt_size he
    have hil : it < s.heap.objs.size := by obtain ⟨_, q, _⟩ := hit; exact Heap.lt_size q
    have hlt : i < its.toArray.size := by
      have := (List.getElem?_eq_some_iff.mp hu).1
      simpa using this
    have Dr := Draws.tuple (prog := X.prog) (w := X.w) (A := X.A.in1) (I.ok.hd hc) it a hai its.toArray
    refine wpAny_pyNext_enum_itemD Dr he ⟨hit, p⟩ hlt hne (fun z => by
      have z : e = it ∨ e = a := by simpa using z
      rcases z with z | z
      · exact hne z
      · exact hea z) fun u' h' tk hP ho hst hT hsz hk => ?_
    have hu' : u' = u := by
      have hP : its.toArray[i]? = some u' := hP
      have h2 : its.toArray[i]? = some u := by simpa using hu
      rw [hP] at h2; cases h2; rfl
    subst hu'
    refine ⟨_, rfl, wpAny_letOwnedTupleGo_enum (s := { s with heap := h', toks := tk + 1 }) ho fun h'' he' sb => ?_⟩
    have hT2 : h''.get? s.heap.objs.size = some { cls := .type "tuple", data := .seq #[.int i tk, u'] } := (sb.2 _ (Nat.ne_of_gt hel)).trans hT
    have new : ObjOk X.prog X.w (upd H s.heap.objs.size (.tup [.int (i : Nat), x])) h'' s.heap.objs.size (.tup [.int (i : Nat), x]) :=
      ⟨by show 2 ≤ sizeLine; decide, [.int i tk, u'], .cons ⟨_, rfl⟩ (.cons ru .nil), ⟨_, hT2, rfl, _, rfl⟩⟩
    have I1 : Inv X pins σ (upd H s.heap.objs.size (.tup [.int (i : Nat), x])) { s with heap := h'', toks := tk + 1 } :=
      I.turnedNew (ch := [e, it]) (fun b ob hb q => (sb.2 b (fun z => hb (by simp [z]))).trans (hk b ob (fun z => hb (by simp [z])) (fun z => hb (by simp [z])) q)) hf (Nat.le_refl _) new
    refine ⟨.ref s.heap.objs.size, _, I1, rfl, ⟨_, x, rfl, I.hok.fresh (Nat.le_refl _), rfl, fun ys hy => by rw [I.tuple_inj hy hq]; exact hx⟩, ⟨⟨u', ?_⟩, hst.1.at fun o q => (sb.2 it (Ne.symm hne)).trans q, hne, hai, hea⟩, fun b hb => ?_⟩
    · have e1 : ((i + 1 : Nat) : Int) = (i : Int) + 1 := by omega
      rw [e1]; exact he'
    · have hb' : b < s.heap.objs.size := by
        have e' : b = e ∨ b = it := by simpa using hb
        rcases e' with z | z
        · rw [z]; exact hel
        · rw [z]; exact hil
      rw [upd_ne (Nat.ne_of_lt hb')]
      exact (hf b hb).1
  done := by
    intro X hP hw hK hc i pins s σ H E I hf st hg
    subst hP hw hK
    obtain ⟨⟨old, he⟩, hit, hne, hai, hea⟩ := st
    obtain ⟨xs, hq, hx⟩ := hg
    obtain ⟨its, rv, p, hz⟩ := I.tuple hq
    obtain ⟨f0, f1, f2, f3, f4, f5⟩ := hf it (by simp)
    have hl := rv.length
    have e1 : i = its.toArray.size := by rw [List.size_toArray]; omega
    subst e1
    have Dr := Draws.tuple (prog := X.prog) (w := X.w) (A := X.A.in1) (I.ok.hd hc) it a hai its.toArray
    exact wpAny_pyNext_enum_endD Dr he ⟨hit, p⟩ fun h' eb => ⟨rfl, I.turned (t' := s.toks) (fun b o hb q => eb b o hb q) f0 f1 f3 f4 f5⟩
  self := fun A i s Q E st h => let ⟨⟨_, he⟩, _⟩ := st; wpAny_pyIter_enum he h
def iEnumT (K : PySem.W.Frag) (ta : TA) : TI := fun σ H R => ta σ H fun vs H1 => ∃ a xs, vs = [.ref a] ∧ ((SqL K H1 a xs ∧ R (Ite K a) H1) ∨ (SqT K H1 a xs ∧ R (IteT K a) H1))
theorem pi_enumT {X : Cx} {e : Expr} {ta : TA} {p pos tpos : Pos} {elts : List Expr} {kk : Nat} (hg : Gl X "enumerate") (hm : X.mg "enumerate" = none) (ha : PA X [e] ta) (hs : starEach [e] X.env = [(false, eval e X.env)]) :
    PI X (.Tuple elts kk tpos) (.Call (.Name "enumerate" p) [e] [] pos) (iEnumT X.K ta) := by
  refine ⟨fun pins s σ H R I h => ?_⟩
  refine Call_ (ld_blt I hg hm boot_enumerate (PyProof.Rows.callWith_type1 (thn (ha.run pos pins s σ H _ I h) fun us s1 ⟨vs, H1, I1, r1, q1⟩ => ?_) hs rfl))
  obtain ⟨a, xs, ex, q1⟩ := q1
  subst ex
  cases r1 with
  | cons r rr =>
    cases rr
    cases r
    have fp : ∀ b ∈ [s1.heap.objs.size + 1, s1.heap.objs.size], FpOk X pins H1 b := fun b hb => by
      have e' : b = s1.heap.objs.size + 1 ∨ b = s1.heap.objs.size := by simpa using hb
      have hle : s1.heap.objs.size ≤ b := by
        rcases e' with z | z
        · rw [z]; exact Nat.le_add_right _ _
        · rw [z]; exact Nat.le_refl _
      exact I1.fpOk hle (I1.hok.fresh hle)
    rcases q1 with ⟨hq, q⟩ | ⟨hq, q⟩
    · obtain ⟨its, rv, p', hz⟩ := I1.list hq
      refine call_enumerate_list p'.isList fun h' he hit hsz hk => wpAny_pyIter_enum he ?_
      have I2 : Inv X pins σ H1 { s1 with heap := h' } := I1.kept (t' := s1.toks) hk
      exact ⟨s1.heap.objs.size + 1, [s1.heap.objs.size + 1, s1.heap.objs.size], _, _, H1, rfl, I2, turn_enum a (s1.heap.objs.size + 1) s1.heap.objs.size, ⟨⟨.none, he⟩, hit, Nat.succ_ne_self _⟩, fp, q⟩
    · obtain ⟨its, rv, p', hz⟩ := I1.tuple hq
      have lt : a < s1.heap.objs.size := by obtain ⟨_, q, _⟩ := id p'; exact Heap.lt_size q
      refine call_enumT (show s1.heap.IsTuple a its.toArray from p') fun h' he hit hsz hk => wpAny_pyIter_enum he ?_
      have I2 : Inv X pins σ H1 { s1 with heap := h' } := I1.kept (t' := s1.toks) hk
      exact ⟨s1.heap.objs.size + 1, [s1.heap.objs.size + 1, s1.heap.objs.size], _, _, H1, rfl, I2, turn_enumT a (s1.heap.objs.size + 1) s1.heap.objs.size, ⟨⟨.none, he⟩, hit, Nat.succ_ne_self _, Nat.ne_of_lt lt, Nat.ne_of_gt (Nat.lt_succ_of_lt lt)⟩, fp, q⟩
end Py
set_option Elab.async false
set_option linter.all false
set_option maxRecDepth 100000
set_option maxHeartbeats 1000000
namespace Py
open PySem PySem.Spec PyProof.Rows L2
/-- what stays, from one state to a later one -/
def Mv (O : Addr → Prop) (H : Hp) (O' : Addr → Prop) (H' : Hp) : Prop := ∀ a o, H a = some o → ¬ O a → H' a = some o ∧ ¬ O' a
section
variable {O O' O2 : Addr → Prop} {H H' H2 : Hp}
theorem Mv.refl : Mv O H O H := fun _ _ h n => ⟨h, n⟩
theorem Mv.trans (m : Mv O H O' H') (n : Mv O' H' O2 H2) : Mv O H O2 H2 := fun a o h z => n a o (m a o h z).1 (m a o h z).2
theorem Mv.of (f : Fr O H H') (s : ∀ a, O' a → O a) : Mv O H O' H' := fun a o h n => ⟨f a o h n, fun z => n (s a z)⟩
theorem Mv.push {p : Addr} {o : HO} (h : H p = none) : Mv O H (fun a => O a ∨ a = p) (upd H p o) := fun a u e n => ⟨by rw [upd_ne (ne_of_none e h)]; exact e, fun z => z.elim n (ne_of_none e h)⟩
theorem Da.mv {K : PySem.W.Frag} {d : D} {v : V} (q : Da K H O d v) (m : Mv O H O' H') : Da K H' O' d v := Da.to m d v q
end
structure WalkD (K : PySem.W.Frag) (own : List Nat) (B : Base) (T' : List (Addr × D)) (J : It) (ds : List D) (Gd : (Addr → Prop) → Hp → Prop) : Prop where
  goes : ∀ i O H, i < ds.length → Gd O H → J.go i H
  stops : ∀ O H, Gd O H → J.stop ds.length H
  yields : ∀ i O H x H', i < ds.length → Gd O H → J.yld i H x H' → (∀ p, O p → ∃ o, H p = some o) → ∃ d, ds[i]? = some d ∧ L2.Same H H' ∧ Da K H' O d x
  stab : ∀ O H O' H' T'' η σ, Gd O H → Mv O H O' H' → (∀ x, x ∈ T' → x ∈ T'') → Rep K own B T'' O' η σ H' → Gd O' H'
section
variable {K : PySem.W.Frag} {own : List Nat} {B : Base} {T' : List (Addr × D)}
theorem Same.refl {H : Hp} : L2.Same H H := fun _ _ h => h
theorem lt_get {α : Type} {l : List α} {i : Nat} (h : i < l.length) : ∃ d, l[i]? = some d := ⟨l[i], List.getElem?_eq_getElem h⟩
theorem da_lst {H : Hp} {O : Addr → Prop} {ds : List D} {a : Addr} (h : Da K H O (.lst ds) (.ref a)) : ∃ xs, H a = some (.lst xs) ∧ ¬ O a ∧ xs.length ≤ LIM ∧ DaL K H O ds xs := by
  simp only [Da] at h
  obtain ⟨b, xs, e, h⟩ := h
  cases e
  exact ⟨xs, h⟩
theorem da_tup {H : Hp} {O : Addr → Prop} {ds : List D} {a : Addr} (h : Da K H O (.tup ds) (.ref a)) : ∃ xs, H a = some (.tup xs) ∧ ¬ O a ∧ xs.length ≤ LIM ∧ DaL K H O ds xs := by
  simp only [Da] at h
  obtain ⟨b, xs, e, h⟩ := h
  cases e
  exact ⟨xs, h⟩
theorem wd_list (a : Addr) (ds : List D) : WalkD K own B T' (Itl K a) ds (fun O H => Da K H O (.lst ds) (.ref a)) where
  goes := fun i O H hi g => by
    obtain ⟨xs, h1, _, _, h3⟩ := da_lst g
    have l := h3.length
    obtain ⟨x, e⟩ := lt_get (l := xs) (i := i) (by omega)
    exact ⟨xs, x, SqL.of h1, e⟩
  stops := fun O H g => by
    obtain ⟨xs, h1, _, _, h3⟩ := da_lst g
    exact ⟨xs, SqL.of h1, Nat.le_of_eq h3.length⟩
  yields := fun i O H x H' hi g y _ => by
    obtain ⟨xs, h1, _, _, h3⟩ := da_lst g
    obtain ⟨rfl, y⟩ := y
    obtain ⟨d, e⟩ := lt_get hi
    obtain ⟨v, e2, h4⟩ := h3.get e
    have e3 := y xs (SqL.of h1)
    rw [e2] at e3; cases e3
    exact ⟨d, e, Same.refl, h4⟩
  stab := fun O H O' H' T'' η σ g m _ _ => Da.mv g m
theorem wd_lock (p : Addr) (ds : List D) (hT : (p, .lst ds) ∈ T') : WalkD K own B T' (Itl K p) ds (fun O H => Ob K H O p (.lst ds)) where
  goes := fun i O H hi g => by
    obtain ⟨xs, h1, _, h3⟩ := Ob.lstE g
    have l := h3.length
    obtain ⟨x, e⟩ := lt_get (l := xs) (i := i) (by omega)
    exact ⟨xs, x, SqL.of h1, e⟩
  stops := fun O H g => by
    obtain ⟨xs, h1, _, h3⟩ := Ob.lstE g
    exact ⟨xs, SqL.of h1, Nat.le_of_eq h3.length⟩
  yields := fun i O H x H' hi g y _ => by
    obtain ⟨xs, h1, _, h3⟩ := Ob.lstE g
    obtain ⟨rfl, y⟩ := y
    obtain ⟨d, e⟩ := lt_get hi
    obtain ⟨v, e2, h4⟩ := h3.get e
    have e3 := y xs (SqL.of h1)
    rw [e2] at e3; cases e3
    exact ⟨d, e, Same.refl, h4⟩
  stab := fun O H O' H' T'' η σ g m s R => (R.tm p _ (s _ hT)).2.2
theorem wd_tup (a : Addr) (ds : List D) : WalkD K own B T' (Itt K a) ds (fun O H => Da K H O (.tup ds) (.ref a)) where
  goes := fun i O H hi g => by
    obtain ⟨xs, h1, _, _, h3⟩ := da_tup g
    have l := h3.length
    obtain ⟨x, e⟩ := lt_get (l := xs) (i := i) (by omega)
    exact ⟨xs, x, SqT.of h1, e⟩
  stops := fun O H g => by
    obtain ⟨xs, h1, _, _, h3⟩ := da_tup g
    exact ⟨xs, SqT.of h1, Nat.le_of_eq h3.length⟩
  yields := fun i O H x H' hi g y _ => by
    obtain ⟨xs, h1, _, _, h3⟩ := da_tup g
    obtain ⟨rfl, y⟩ := y
    obtain ⟨d, e⟩ := lt_get hi
    obtain ⟨v, e2, h4⟩ := h3.get e
    have e3 := y xs (SqT.of h1)
    rw [e2] at e3; cases e3
    exact ⟨d, e, Same.refl, h4⟩
  stab := fun O H O' H' T'' η σ g m _ _ => Da.mv g m
theorem intL_get {lo : Int} {n i : Nat} (h : i < n) : (intL lo n)[i]? = some (.int (lo + (i : Nat))) := by
  unfold intL
  rw [List.getElem?_map, List.getElem?_range h]
  rfl
theorem wd_rng (lo : Int) (n : Nat) : WalkD K own B T' (Itr lo n) (intL lo n) (fun _ _ => True) where
  goes := fun i O H hi g => by rw [intL_length] at hi; exact hi
  stops := fun O H g => by rw [intL_length]; exact Nat.le_refl n
  yields := fun i O H x H' hi g y _ => by
    rw [intL_length] at hi
    obtain ⟨rfl, rfl⟩ := y
    exact ⟨_, intL_get hi, Same.refl, Da.int⟩
  stab := fun O H O' H' T'' η σ g m _ _ => trivial
theorem pair_da {H : Hp} {O : Addr → Prop} {t : Addr} {x y : V} {d e : D} (h : H t = none) (hO : ∀ p, O p → ∃ o, H p = some o) (h1 : Da K H O d x) (h2 : Da K H O e y) : L2.Same H (upd H t (.tup [x, y])) ∧ Da K (upd H t (.tup [x, y])) O (.tup [d, e]) (.ref t) := by
  refine ⟨Same.new h, ?_⟩
  simp only [Da]
  refine ⟨t, [x, y], rfl, upd_same, fun z => ?_, by show 2 ≤ 16777216; omega, ?_⟩
  · obtain ⟨o, e⟩ := hO t z
    rw [h] at e; cases e
  · exact DaL.cons (h1.fr (Fr.new h) fun _ z => z) (DaL.cons (h2.fr (Fr.new h) fun _ z => z) DaL.nil)
theorem pairs_length (xs ys : List D) : (pairs xs ys).length = min xs.length ys.length := by unfold pairs; rw [List.length_map, List.length_zip]
theorem pairs_get {xs ys : List D} {i : Nat} {d e : D} (h1 : xs[i]? = some d) (h2 : ys[i]? = some e) : (pairs xs ys)[i]? = some (.tup [d, e]) := by
  unfold pairs
  rw [List.getElem?_map, (List.getElem?_zip_eq_some (z := (d, e))).mpr ⟨h1, h2⟩]
  rfl
theorem wd_zipL (a b : Addr) (ds es : List D) : WalkD K own B T' (Itz K a b) (pairs ds es) (fun O H => Da K H O (.lst ds) (.ref a) ∧ Da K H O (.lst es) (.ref b)) where
  goes := fun i O H hi g => by
    obtain ⟨xs, h1, _, _, h3⟩ := da_lst g.1
    obtain ⟨ys, g1, _, _, g3⟩ := da_lst g.2
    rw [pairs_length] at hi
    have l := h3.length
    have l2 := g3.length
    obtain ⟨x, e⟩ := lt_get (l := xs) (i := i) (by omega)
    obtain ⟨y, e'⟩ := lt_get (l := ys) (i := i) (by omega)
    exact ⟨xs, ys, x, y, SqL.of h1, SqL.of g1, e, e'⟩
  stops := fun O H g => by
    obtain ⟨xs, h1, _, _, h3⟩ := da_lst g.1
    obtain ⟨ys, g1, _, _, g3⟩ := da_lst g.2
    have l := h3.length
    have l2 := g3.length
    rw [pairs_length]
    exact ⟨xs, ys, SqL.of h1, SqL.of g1, by omega⟩
  yields := fun i O H x H' hi g y hO => by
    obtain ⟨xs, h1, _, _, h3⟩ := da_lst g.1
    obtain ⟨ys, g1, _, _, g3⟩ := da_lst g.2
    obtain ⟨t, u, v, rfl, ht, rfl, y1, y2⟩ := y
    rw [pairs_length] at hi
    obtain ⟨d, e⟩ := lt_get (l := ds) (i := i) (by omega)
    obtain ⟨d', e'⟩ := lt_get (l := es) (i := i) (by omega)
    obtain ⟨u', e2, h4⟩ := h3.get e
    obtain ⟨v', e2', h4'⟩ := g3.get e'
    have e3 := y1 xs (SqL.of h1)
    rw [e2] at e3; cases e3
    have e3 := y2 ys (SqL.of g1)
    rw [e2'] at e3; cases e3
    obtain ⟨q1, q2⟩ := pair_da ht hO h4 h4'
    exact ⟨_, pairs_get e e', q1, q2⟩
  stab := fun O H O' H' T'' η σ g m _ _ => ⟨Da.mv g.1 m, Da.mv g.2 m⟩
theorem wd_zipT (a b : Addr) (ds es : List D) : WalkD K own B T' (RZ.ItzT K a b) (pairs ds es) (fun O H => Da K H O (.tup ds) (.ref a) ∧ Da K H O (.tup es) (.ref b)) where
  goes := fun i O H hi g => by
    obtain ⟨xs, h1, _, _, h3⟩ := da_tup g.1
    obtain ⟨ys, g1, _, _, g3⟩ := da_tup g.2
    rw [pairs_length] at hi
    have l := h3.length
    have l2 := g3.length
    obtain ⟨x, e⟩ := lt_get (l := xs) (i := i) (by omega)
    obtain ⟨y, e'⟩ := lt_get (l := ys) (i := i) (by omega)
    exact ⟨xs, ys, x, y, SqT.of h1, SqT.of g1, e, e'⟩
  stops := fun O H g => by
    obtain ⟨xs, h1, _, _, h3⟩ := da_tup g.1
    obtain ⟨ys, g1, _, _, g3⟩ := da_tup g.2
    have l := h3.length
    have l2 := g3.length
    rw [pairs_length]
    exact ⟨xs, ys, SqT.of h1, SqT.of g1, by omega⟩
  yields := fun i O H x H' hi g y hO => by
    obtain ⟨xs, h1, _, _, h3⟩ := da_tup g.1
    obtain ⟨ys, g1, _, _, g3⟩ := da_tup g.2
    obtain ⟨t, u, v, rfl, ht, rfl, y1, y2⟩ := y
    rw [pairs_length] at hi
    obtain ⟨d, e⟩ := lt_get (l := ds) (i := i) (by omega)
    obtain ⟨d', e'⟩ := lt_get (l := es) (i := i) (by omega)
    obtain ⟨u', e2, h4⟩ := h3.get e
    obtain ⟨v', e2', h4'⟩ := g3.get e'
    have e3 := y1 xs (SqT.of h1)
    rw [e2] at e3; cases e3
    have e3 := y2 ys (SqT.of g1)
    rw [e2'] at e3; cases e3
    obtain ⟨q1, q2⟩ := pair_da ht hO h4 h4'
    exact ⟨_, pairs_get e e', q1, q2⟩
  stab := fun O H O' H' T'' η σ g m _ _ => ⟨Da.mv g.1 m, Da.mv g.2 m⟩
theorem num_get {ds : List D} {i : Nat} {d : D} (hi : i < ds.length) (e : ds[i]? = some d) : (pairs (intL 0 ds.length) ds)[i]? = some (.tup [.int (i : Nat), d]) := by
  have z : (0 : Int) + (i : Nat) = (i : Nat) := by omega
  have := pairs_get (intL_get (lo := 0) hi) e
  rwa [z] at this
theorem num_length (ds : List D) : (pairs (intL 0 ds.length) ds).length = ds.length := by rw [pairs_length, intL_length, Nat.min_self]
theorem wd_enumL (a : Addr) (ds : List D) : WalkD K own B T' (Ite K a) (pairs (intL 0 ds.length) ds) (fun O H => Da K H O (.lst ds) (.ref a)) where
  goes := fun i O H hi g => by
    obtain ⟨xs, h1, _, _, h3⟩ := da_lst g
    rw [num_length] at hi
    have l := h3.length
    obtain ⟨x, e⟩ := lt_get (l := xs) (i := i) (by omega)
    exact ⟨xs, x, SqL.of h1, e⟩
  stops := fun O H g => by
    obtain ⟨xs, h1, _, _, h3⟩ := da_lst g
    rw [num_length]
    exact ⟨xs, SqL.of h1, Nat.le_of_eq h3.length⟩
  yields := fun i O H x H' hi g y hO => by
    obtain ⟨xs, h1, _, _, h3⟩ := da_lst g
    rw [num_length] at hi
    obtain ⟨t, u, rfl, ht, rfl, y1⟩ := y
    obtain ⟨d, e⟩ := lt_get hi
    obtain ⟨v, e2, h4⟩ := h3.get e
    have e3 := y1 xs (SqL.of h1)
    rw [e2] at e3; cases e3
    obtain ⟨q1, q2⟩ := pair_da ht hO (Da.int (i := (i : Nat))) h4
    exact ⟨_, num_get hi e, q1, q2⟩
  stab := fun O H O' H' T'' η σ g m _ _ => Da.mv g m
theorem wd_enumT (a : Addr) (ds : List D) : WalkD K own B T' (IteT K a) (pairs (intL 0 ds.length) ds) (fun O H => Da K H O (.tup ds) (.ref a)) where
  goes := fun i O H hi g => by
    obtain ⟨xs, h1, _, _, h3⟩ := da_tup g
    rw [num_length] at hi
    have l := h3.length
    obtain ⟨x, e⟩ := lt_get (l := xs) (i := i) (by omega)
    exact ⟨xs, x, SqT.of h1, e⟩
  stops := fun O H g => by
    obtain ⟨xs, h1, _, _, h3⟩ := da_tup g
    rw [num_length]
    exact ⟨xs, SqT.of h1, h3.length⟩
  yields := fun i O H x H' hi g y hO => by
    obtain ⟨xs, h1, _, _, h3⟩ := da_tup g
    rw [num_length] at hi
    obtain ⟨t, u, rfl, ht, rfl, y1⟩ := y
    obtain ⟨d, e⟩ := lt_get hi
    obtain ⟨v, e2, h4⟩ := h3.get e
    have e3 := y1 xs (SqT.of h1)
    rw [e2] at e3; cases e3
    obtain ⟨q1, q2⟩ := pair_da ht hO (Da.int (i := (i : Nat))) h4
    exact ⟨_, num_get hi e, q1, q2⟩
  stab := fun O H O' H' T'' η σ g m _ _ => Da.mv g m
end
/-! ### what is walked over -/
def Lk (own : List Nat) (σ : L2.St) (T T' L : List (Addr × D)) (o : Opd) (d : D) : Prop := match o with
  | .inl _ => T' = T ∧ L = []
  | .inr i => ∃ p, i ∈ own ∧ i ≠ 0 ∧ σ[i]? = some (some (.ref p)) ∧ T' = (p, d) :: T ∧ L = [(p, d)]
theorem Lk.mem {own : List Nat} {σ : L2.St} {T T' L : List (Addr × D)} {o : Opd} {d : D} (h : Lk own σ T T' L o d) : ∀ x, x ∈ L → x ∈ T' := by
  intro x hx
  cases o with
  | inl z =>
    obtain ⟨_, rfl⟩ := (show T' = T ∧ L = [] from h)
    exact nomatch hx
  | inr i =>
    obtain ⟨p, _, _, _, rfl, rfl⟩ := h
    rcases List.mem_singleton.mp hx with rfl
    exact List.mem_cons_self ..
section
variable {G : Exi} {X : Cx} {cf : CF} {own : List Nat} {tg : Expr}
def PostI (X : Cx) (own : List Nat) (B : Base) (T : List (Addr × D)) (O : Addr → Prop) (σ : L2.St) (H : Hp) (R : It → Hp → Prop) (r : List D × Opd × D × Env) : Prop :=
  ∀ (O' : Addr → Prop) (T' L : List (Addr × D)) (J : It) (H' : Hp) (Gd : (Addr → Prop) → Hp → Prop), (∀ a, O' a → O a) → Rep X.K own B T' O' r.2.2.2 σ H' → Fr O H H' → WalkD X.K own B L J r.1 Gd → Gd O' H' → Lk own σ T T' L r.2.1 r.2.2.1 → R J H'
def RI (X : Cx) (tg iter : Expr) : TI := fun σ H R => ∀ (pins : List (Addr × Obj)) (s : Shared), Inv X pins σ H s → wpAny (model X.prog X.w) X.A (eval iter X.env) (fun v s1 => wpAny (model X.prog X.w) X.A (pyIter v) (PIE X pins σ tg R) X.xe s1) X.xe s
theorem RI.pi (tg iter : Expr) : PI X tg iter (RI X tg iter) := ⟨fun pins s σ H R I h => h pins s I⟩
theorem RI.of {iter : Expr} {t : TI} (h : PI X tg iter t) {σ : L2.St} {H : Hp} {R : It → Hp → Prop} (q : t σ H R) : RI X tg iter σ H R := fun pins s I => h.run pins s σ H R I q
def SI (G : Exi) (X : Cx) (cf : CF) (own : List Nat) (q : E) (tg e : Expr) : Prop := ∀ (B : Base) (T : List (Addr × D)) (O : Addr → Prop) (η : Env) (σ : L2.St) (H : Hp) (R : It → Hp → Prop), Rep X.K own B T O η σ H →
  Sat (evSrc cf q η) (PostI X own B T O σ H R) (XOk G X B σ) → RI X tg e σ H R
def iSeq (K : PySem.W.Frag) (tl : TE) : TI := fun σ H R => tl σ H fun x H1 => ∃ a, x = .ref a ∧ (((∃ xs, SqL K H1 a xs) ∧ R (Itl K a) H1) ∨ ((∃ xs, SqT K H1 a xs) ∧ R (Itt K a) H1) ∨ ∃ lo hi, H1 a = some (.rng lo hi) ∧ (-(2 ^ 62) ≤ lo ∧ lo < 2 ^ 62 ∧ -(2 ^ 62) ≤ hi ∧ hi < 2 ^ 62) ∧ R (Itr lo (hi - lo).toNat) H1)
theorem pi_seq {l : Expr} {tl : TE} (hl : PE X l tl) : PI X tg l (iSeq X.K tl) := by
  refine ⟨fun pins s σ H R I h => ?_⟩
  refine thn (hl.run pins s σ H _ I h) fun v s1 ⟨x, H1, I1, r1, q1⟩ => ?_
  obtain ⟨a, e, q1⟩ := q1
  subst e
  cases r1
  have fp : ∀ b ∈ [s1.heap.objs.size], FpOk X pins H1 b := fun b hb => by
    have e : b = s1.heap.objs.size := by simpa using hb
    subst e
    exact I1.fpOk (Nat.le_refl _) (I1.hok.fresh (Nat.le_refl _))
  rcases q1 with ⟨⟨xs, hq⟩, q⟩ | ⟨⟨xs, hq⟩, q⟩ | ⟨lo, hi, hq, ⟨b1, b2, b3, b4⟩, q⟩
  rotate_left 2
  · obtain ⟨t1, t2, t3, ho⟩ := I1.hok a _ hq
    refine wpAny_pyIter_range ho (small_one b1 b2 b3 b4) ?_
    refine ⟨_, [s1.heap.objs.size], _, _, H1, rfl, I1.kept (t' := s1.toks) fun b o e => Heap.get?_push_of_some _ e, turn_range _ lo (hi - lo).toNat, ?_, fp, q⟩
    have z1 : lo + ((0 : Nat) : Int) * 1 = lo := by omega
    have z2 : (((hi - lo).toNat : Nat) : Int) - ((0 : Nat) : Int) = Builtin.Range.rangeSize lo hi 1 := by rw [rangeSize_one]; split <;> omega
    show IsRangeIter _ _ (lo + ((0 : Nat) : Int) * 1) _ 1
    rw [z1, z2]
    exact Heap.get?_push_size _ rfl
  · obtain ⟨its, rv, p, hz⟩ := I1.list hq
    refine wpAny_pyIter_list p.isList ?_
    exact ⟨_, [s1.heap.objs.size], _, _, H1, rfl, I1.kept (t' := s1.toks) fun b o e => Heap.get?_push_of_some _ e, turn_list a _, ⟨_, Heap.get?_push_size _ rfl, rfl, rfl⟩, fp, q⟩
  · obtain ⟨its, rv, p, hz⟩ := I1.tuple hq
    refine wpAny_pyIter_tuple (show s1.heap.IsTuple a its.toArray from p) ?_
    exact ⟨_, [s1.heap.objs.size], _, _, H1, rfl, I1.kept (t' := s1.toks) fun b o e => Heap.get?_push_of_some _ e, turn_tuple a _, ⟨_, Heap.get?_push_size _ rfl, rfl, rfl⟩, fp, q⟩
def plainSrc : E → Bool
  | .rg1 _ => false
  | .rg2 _ _ => false
  | .zip _ _ => false
  | .enum _ => false
  | .k _ => false
  | .p _ => false
  | _ => true
theorem evSrc_plain {q : E} {η : Env} (h : plainSrc q = true) : evSrc cf q η = (ev cf q η).bind fun x => (noer (items x.1)).bind fun ds => .ok (ds, .inl x.1, x.1, x.2) := by
  have n : ∀ i, q ≠ .p i := fun i z => by subst z; cases h
  have e : evSrc cf q η = (opd q (ev cf q) η).bind fun x => (noer (rd x.1 x.2)).bind fun d => (noer (items d)).bind fun ds => .ok (ds, x.1, d, lock x.1 x.2) := by
    cases q <;> first | (exfalso; revert h; decide) | (exfalso; exact Bool.false_ne_true h) | rfl
  rw [e, opd_np n]
  cases ev cf q η <;> rfl
theorem items_ok {d : D} {ds : List D} (h : items d = .ok ds) : d = .lst ds ∨ d = .tup ds ∨ ∃ i j, d = .rng i j ∧ (-(2 ^ 62) ≤ i ∧ i < 2 ^ 62 ∧ -(2 ^ 62) ≤ j ∧ j < 2 ^ 62) ∧ ds = intL i (j - i).toNat := by
  cases d with
  | lst xs => cases h; exact .inl rfl
  | tup xs => cases h; exact .inr (.inl rfl)
  | rng i j =>
    simp only [items] at h
    split at h
    · rename_i c
      cases h
      unfold boundOk at c
      simp only [Bool.and_eq_true, decide_eq_true_eq] at c
      exact .inr (.inr ⟨i, j, rfl, ⟨c.1.1, c.1.2, c.2.1, c.2.2⟩, rfl⟩)
    · cases h
  | _ => cases h
theorem si_seq {q : E} {e : Expr} (ha : SE G X cf own q e) (hp : plainSrc q = true) : SI G X cf own q tg e := by
  intro B T O η σ H R Rp s
  rw [evSrc_plain hp] at s
  refine RI.of (pi_seq (RE.pe e)) ?_
  refine one' ha Rp s fun d η1 O1 v H1 s1 i1 R1 f1 o1 => ?_
  obtain ⟨ds, e2, s1⟩ := okS s1
  rcases items_ok e2 with e3 | e3 | ⟨ri, rj, e3, rb, rfl⟩
  rotate_left 2
  · have e3 : d = .rng ri rj := e3
    subst e3
    have o2 := o1
    simp only [Da] at o2
    obtain ⟨a, rfl, h1, _⟩ := o2
    exact ⟨a, rfl, .inr (.inr ⟨ri, rj, h1, rb, s1 O1 T [] _ H1 _ i1 R1 f1 (wd_rng ri _) trivial ⟨rfl, rfl⟩⟩)⟩
  · have e3 : d = .lst ds := e3
    subst e3
    obtain ⟨a, xs, rfl, h1, h2, h3⟩ := (DT.fr o1).lst
    exact ⟨a, rfl, .inl ⟨⟨xs, SqL.of h1⟩, s1 O1 T [] _ H1 _ i1 R1 f1 (wd_list a ds) o1 ⟨rfl, rfl⟩⟩⟩
  · have e3 : d = .tup ds := e3
    subst e3
    obtain ⟨a, xs, rfl, h1, _⟩ := o1.tup_of
    exact ⟨a, rfl, .inr (.inl ⟨⟨xs, SqT.of h1⟩, s1 O1 T [] _ H1 _ i1 R1 f1 (wd_tup a ds) o1 ⟨rfl, rfl⟩⟩)⟩
theorem si_p {i : Nat} {x : Str} {pos : Pos} (hN : X.N[i]? = some x) (hv : Vis X.env.scope x) (hd : (x == ("__debug__" : Str)) = false) (hcd : (x == ("__classdict__" : Str)) = false) (hi : i ∈ own) (h0 : i ≠ 0) : SI G X cf own (.p i) tg (.Name x pos) := by
  intro B T O η σ H R Rp s
  have e : evSrc cf (.p i) η = (opd (.p i) (ev cf (.p i)) η).bind fun x => (noer (rd x.1 x.2)).bind fun d => (noer (items d)).bind fun ds => .ok (ds, x.1, d, lock x.1 x.2) := by simp only [evSrc_rg1, evSrc_rg2, evSrc_zip, evSrc_enum, evSrc_k, evSrc_p]
  rw [e] at s
  unfold opd at s
  cases e1 : η[i]? with
  | none => simp only [e1] at s; exact s.elim
  | some o =>
    cases o with
    | none => simp only [e1] at s; exact s.elim
    | some d0 =>
      simp only [e1] at s
      obtain ⟨d, e2, s⟩ := okS (show Sat ((noer (rd (.inr i) η)).bind _) _ _ from s)
      have e2 := rdr_ok e2
      obtain ⟨ds, e3, s⟩ := okS s
      obtain ⟨p, h1, R1⟩ := Rp.lock e2 hi h0
      obtain ⟨q, z1, z2, z3, hob⟩ := Rp.ow i _ e2 hi
      obtain rfl : q = p := by rw [h1] at z1; cases z1; rfl
      rcases items_ok e3 with e4 | e4 | ⟨_, _, e4, _⟩
      rotate_left 2
      · cases e4
        obtain ⟨_, _, _, hs, _⟩ := hob
        rcases hs with ⟨hs, _⟩ | ⟨_, hs, _⟩ <;> cases hs
      · cases e4
        obtain ⟨xs, z4, z5, z6⟩ := hob.lstE
        refine RI.of (pi_seq (pe_var hN hv hd hcd)) ⟨_, h1, q, rfl, .inl ⟨⟨xs, SqL.of z4⟩, ?_⟩⟩
        exact s O ((q, .lst ds) :: T) [(q, .lst ds)] _ H _ (fun _ z => z) R1 Fr.refl (wd_lock q ds (List.mem_cons_self ..)) hob ⟨q, hi, h0, h1, rfl, rfl⟩
      · cases e4
        obtain ⟨_, _, _, hs, _⟩ := hob
        rcases hs with ⟨hs, _⟩ | ⟨_, hs, _⟩ <;> cases hs
theorem si_rg1 {a : E} {ea : Expr} {p pos : Pos} (ha : SE G X cf own a ea) (hs : isStar ea = false) (hg : Gl X "range") (hm : X.mg "range" = none) : SI G X cf own (.rg1 a) tg (.Call (.Name "range" p) [ea] [] pos) := by
  intro B T O η σ H R Rp s
  simp only [evSrc_rg1, evSrc_rg2, evSrc_zip, evSrc_enum, evSrc_k, evSrc_p] at s
  refine RI.of (pi_range1 hg hm (pa_cons (RE.pe ea) pa_nil (ns_of hs _ _)) (ns_of hs _ _)) ?_
  refine one' ha Rp s fun d η1 O1 v H1 s1 i1 R1 f1 o1 => ?_
  obtain ⟨ds, e1, s1⟩ := okS s1
  obtain ⟨i, j, e3, e4, bb, rfl⟩ := rng_ok e1
  cases e3
  have e4 : d = .int j := e4
  subst e4
  have e5 := o1.int_of
  subst e5
  rw [Int.sub_zero] at s1
  exact ⟨j, rfl, bb.2.2.1, bb.2.2.2, s1 O1 T [] _ H1 _ i1 R1 f1 (wd_rng 0 j.toNat) trivial ⟨rfl, rfl⟩⟩
theorem si_rg2 {a b : E} {ea eb : Expr} {p pos : Pos} (ha : SE G X cf own a ea) (hb : SE G X cf own b eb) (hs : isStar ea = false) (hs2 : isStar eb = false) (hg : Gl X "range") (hm : X.mg "range" = none) : SI G X cf own (.rg2 a b) tg (.Call (.Name "range" p) [ea, eb] [] pos) := by
  intro B T O η σ H R Rp s
  simp only [evSrc_rg1, evSrc_rg2, evSrc_zip, evSrc_enum, evSrc_k, evSrc_p] at s
  refine RI.of (pi_range2 hg hm (pa_cons (RE.pe ea) (pa_cons (RE.pe eb) pa_nil (ns_of hs2 _ _)) (ns_of hs _ _)) (by rw [ns_of hs, ns_of hs2]; rfl) (ns_of hs2 _ _)) ?_
  refine one' ha Rp s fun d η1 O1 v H1 s1 i1 R1 f1 o1 => ?_
  refine one' hb R1 s1 fun e η2 O2 u H2 s2 i2 R2 f2 o2 => ?_
  obtain ⟨ds, e1, s3⟩ := okS s2
  obtain ⟨i, j, e3, e4, bb, rfl⟩ := rng_ok e1
  have e3 : d = .int i := e3
  have e4 : e = .int j := e4
  subst e3 e4
  have e5 := (o1.fr f2 i2).int_of
  have e6 := o2.int_of
  subst e5 e6
  exact ⟨i, j, rfl, bb, s3 O2 T [] _ H2 _ (fun a z => i1 a (i2 a z)) R2 (f1.trans i1 f2) (wd_rng i _) trivial ⟨rfl, rfl⟩⟩
theorem zip_ok {x y : D} {ds : List D} (h : zipD x y = .ok ds) : (∃ xs ys, x = .lst xs ∧ y = .lst ys ∧ ds = pairs xs ys) ∨ ∃ xs ys, x = .tup xs ∧ y = .tup ys ∧ ds = pairs xs ys := by
  cases x <;> cases y <;> first | (cases h; exact .inl ⟨_, _, rfl, rfl, rfl⟩) | (cases h; exact .inr ⟨_, _, rfl, rfl, rfl⟩) | cases h
theorem enum_ok {x : D} {ds : List D} (h : enumD x = .ok ds) : (∃ xs, x = .lst xs ∧ ds = pairs (intL 0 xs.length) xs) ∨ ∃ xs, x = .tup xs ∧ ds = pairs (intL 0 xs.length) xs := by
  cases x <;> first | (cases h; exact .inl ⟨_, rfl, rfl⟩) | (cases h; exact .inr ⟨_, rfl, rfl⟩) | cases h
theorem si_zip {a b : E} {ea eb : Expr} {p pos tpos : Pos} {elts : List Expr} {kk : Nat} (ha : SE G X cf own a ea) (hb : SE G X cf own b eb) (hs : isStar ea = false) (hs2 : isStar eb = false) (hg : Gl X "zip") (hm : X.mg "zip" = none) :
    SI G X cf own (.zip a b) (.Tuple elts kk tpos) (.Call (.Name "zip" p) [ea, eb] [] pos) := by
  intro B T O η σ H R Rp s
  simp only [evSrc_rg1, evSrc_rg2, evSrc_zip, evSrc_enum, evSrc_k, evSrc_p] at s
  refine RI.of (RZ.pi_zipA hg hm (pa_cons (RE.pe ea) (pa_cons (RE.pe eb) pa_nil (ns_of hs2 _ _)) (ns_of hs _ _)) (ns_of hs _ _) (back_ns (by intro e he; rcases List.mem_singleton.mp he with rfl; exact hs2) _ _)) ?_
  refine one' ha Rp s fun d η1 O1 v H1 s1 i1 R1 f1 o1 => ?_
  refine one' hb R1 s1 fun e η2 O2 u H2 s2 i2 R2 f2 o2 => ?_
  obtain ⟨ds, e1, s2⟩ := okS s2
  have o1' := o1.fr f2 i2
  rcases zip_ok e1 with ⟨xs, ys, e3, e4, rfl⟩ | ⟨xs, ys, e3, e4, rfl⟩
  · have e3 : d = .lst xs := e3
    have e4 : e = .lst ys := e4
    subst e3 e4
    obtain ⟨a', xs', rfl, h1, _⟩ := (DT.fr o1').lst
    obtain ⟨b', ys', rfl, h2, _⟩ := (DT.fr o2).lst
    exact ⟨a', b', xs', ys', rfl, .inl ⟨SqL.of h1, SqL.of h2, s2 O2 T [] _ H2 _ (fun a z => i1 a (i2 a z)) R2 (f1.trans i1 f2) (wd_zipL a' b' xs ys) ⟨o1', o2⟩ ⟨rfl, rfl⟩⟩⟩
  · have e3 : d = .tup xs := e3
    have e4 : e = .tup ys := e4
    subst e3 e4
    obtain ⟨a', xs', rfl, h1, _⟩ := o1'.tup_of
    obtain ⟨b', ys', rfl, h2, _⟩ := o2.tup_of
    exact ⟨a', b', xs', ys', rfl, .inr ⟨SqT.of h1, SqT.of h2, s2 O2 T [] _ H2 _ (fun a z => i1 a (i2 a z)) R2 (f1.trans i1 f2) (wd_zipT a' b' xs ys) ⟨o1', o2⟩ ⟨rfl, rfl⟩⟩⟩
theorem si_enum {a : E} {ea : Expr} {p pos tpos : Pos} {elts : List Expr} {kk : Nat} (ha : SE G X cf own a ea) (hs : isStar ea = false) (hg : Gl X "enumerate") (hm : X.mg "enumerate" = none) :
    SI G X cf own (.enum a) (.Tuple elts kk tpos) (.Call (.Name "enumerate" p) [ea] [] pos) := by
  intro B T O η σ H R Rp s
  simp only [evSrc_rg1, evSrc_rg2, evSrc_zip, evSrc_enum, evSrc_k, evSrc_p] at s
  refine RI.of (pi_enumT hg hm (pa_cons (RE.pe ea) pa_nil (ns_of hs _ _)) (ns_of hs _ _)) ?_
  refine one' ha Rp s fun d η1 O1 v H1 s1 i1 R1 f1 o1 => ?_
  obtain ⟨ds, e1, s1⟩ := okS s1
  rcases enum_ok e1 with ⟨xs, e3, rfl⟩ | ⟨xs, e3, rfl⟩
  · have e3 : d = .lst xs := e3
    subst e3
    obtain ⟨a', xs', rfl, h1, _⟩ := (DT.fr o1).lst
    exact ⟨a', xs', rfl, .inl ⟨SqL.of h1, s1 O1 T [] _ H1 _ i1 R1 f1 (wd_enumL a' xs) o1 ⟨rfl, rfl⟩⟩⟩
  · have e3 : d = .tup xs := e3
    subst e3
    obtain ⟨a', xs', rfl, h1, _⟩ := o1.tup_of
    exact ⟨a', xs', rfl, .inr ⟨SqT.of h1, s1 O1 T [] _ H1 _ i1 R1 f1 (wd_enumT a' xs) o1 ⟨rfl, rfl⟩⟩⟩
theorem unlock_ok {K : PySem.W.Frag} {B : Base} {T T' L : List (Addr × D)} {O : Addr → Prop} {η η' : Env} {σ : L2.St} {H : Hp} {o : Opd} {d : D} (h : unlock o d η = .ok η') (lk : Lk own σ T T' L o d) (R : Rep K own B T' O η σ H) : Rep K own B T O η' σ H := by
  cases o with
  | inl z =>
    obtain ⟨rfl, _⟩ := (show T' = T ∧ L = [] from lk)
    cases h; exact R
  | inr i =>
    obtain ⟨p, hi, h0, hp, rfl, _⟩ := lk
    simp only [unlock] at h
    split at h
    · cases h
      exact R.take hi (fun _ _ => rfl) rfl fun _ => hp
    · cases h
theorem foldno {e : Expr} (h : ∀ es k p, e ≠ .Set es k p) : ∀ env x, foldedSetIterable e env x = pure x := by
  intro env x
  cases e <;> first | rfl | exact absurd rfl (h _ _ _)
end
end Py
set_option Elab.async false
set_option linter.all false
set_option maxRecDepth 100000
set_option maxHeartbeats 1000000
namespace Py
open PySem PySem.Spec PyProof.Rows L2
section
variable {G : Exi} {X : Cx} {cf : CF} {own : List Nat}
def RTs (X : Cx) (ifs : List Expr) : TT := fun σ H Q => ∀ (pins : List (Addr × Obj)) (s : Shared), Inv X pins σ H s →
  wpAny (model X.prog X.w) X.A (forIn ifs true fun c r => if r = true then do let ok ← isTrue c X.env (eval c X.env); pure (ForInStep.yield ok) else pure (ForInStep.yield r)) (TP X pins σ Q) X.xe s
theorem RTs.pts (ifs : List Expr) : PTs X ifs (RTs X ifs) := ⟨fun pins s σ H Q I h => h pins s I⟩
theorem RTs.of {ifs : List Expr} {t : TT} (h : PTs X ifs t) {σ : L2.St} {H : Hp} {Q : Bool → Hp → Prop} (q : t σ H Q) : RTs X ifs σ H Q := fun pins s I => h.run pins s σ H Q I q
def SC (G : Exi) (X : Cx) (cf : CF) (own : List Nat) (q : E) (ifs : List Expr) : Prop := (∀ i, q ≠ .p i) ∧ ∀ (B : Base) (T : List (Addr × D)) (O : Addr → Prop) (η : Env) (σ : L2.St) (H : Hp) (Q : Bool → Hp → Prop), Rep X.K own B T O η σ H →
  Sat (evB cf q η) (PostB X own B T O σ H Q) (XOk G X B σ) → RTs X ifs σ H Q
theorem sc_nil : SC G X cf own (.k (.bl true)) [] := by
  have np : ∀ i, E.k (.bl true) ≠ .p i := fun i z => by cases z
  refine ⟨np, ?_⟩
  intro B T O η σ H Q R s
  rw [evB_np np] at s
  simp only [ev] at s
  exact RTs.of pts_nil (s O H (fun _ z => z) R Fr.refl)
theorem sc_one {q : E} {e : Expr} (np : ∀ i, q ≠ .p i) (h : ST G X cf own q e) : SC G X cf own q [e] :=
  ⟨np, fun B T O η σ H Q R s => RTs.of (pts_one (RT.pt e)) (h B T O η σ H Q R s)⟩
/-- the outer places behind a comprehension -/
theorem backE_get (η η0 : Env) : ∀ (vs : List Nat) (j : Nat), (backE η η0 vs)[j]? = if j ∈ vs ∧ j < η.length then some (η0[j]?).join else η[j]?
  | [], j => by unfold backE; rw [if_neg (fun z => nomatch z.1)]
  | v :: vs, j => by
    have len : ∀ vs : List Nat, (backE η η0 vs).length = η.length := fun vs => by
      induction vs with
      | nil => rfl
      | cons v vs ih => unfold backE; rw [List.length_set, ih]
    unfold backE
    by_cases e : j = v
    · subst e
      by_cases l : j < η.length
      · rw [List.getElem?_set_self (by rw [len]; exact l), if_pos ⟨List.mem_cons_self .., l⟩]
      · rw [List.getElem?_eq_none (by rw [List.length_set, len]; omega), if_neg (fun z => l z.2), List.getElem?_eq_none (by omega)]
    · rw [List.getElem?_set_ne (Ne.symm e), backE_get η η0 vs j]
      by_cases c : j ∈ vs ∧ j < η.length
      · rw [if_pos c, if_pos ⟨List.mem_cons_of_mem _ c.1, c.2⟩]
      · rw [if_neg c, if_neg (fun z => c ⟨(List.mem_cons.mp z.1).resolve_left e, z.2⟩)]
theorem backE_length (η η0 : Env) (vs : List Nat) : (backE η η0 vs).length = η.length := by
  induction vs with
  | nil => rfl
  | cons v vs ih => unfold backE; rw [List.length_set, ih]
theorem killE_length (η : Env) (vs : List Nat) : (killE η vs).length = η.length := by
  induction vs with
  | nil => rfl
  | cons v vs ih => unfold killE; rw [List.length_set, ih]
theorem rep_back {K : PySem.W.Frag} {B : Base} {T1 T2 : List (Addr × D)} {O1 O2 : Addr → Prop} {η1 η2 : Env} {σ : L2.St} {H1 H2 : Hp} {vs : List Nat} (R2 : Rep K own B T2 O2 (killE η2 vs) (wipe σ vs) H2) (R1 : Rep K own B T1 O1 η1 σ H1) (m : Mv O1 H1 O2 H2) (dj : ∀ i ∈ vs, i ∉ own) :
    Rep K own B T2 O2 (backE η2 η1 vs) σ H2 := by
  have lk : η2.length = σ.length := by have := R2.len; rwa [killE_length, wipe_length] at this
  have sg : ∀ j, j ∉ vs → (wipe σ vs)[j]? = σ[j]? := fun j n => by rw [wipe_get, if_neg (fun z => n z.1)]
  have out : ∀ j d, j ∉ vs → (backE η2 η1 vs)[j]? = some (some d) → (killE η2 vs)[j]? = some (some d) := fun j d n e => by
    rw [backE_get, if_neg (fun z => n z.1)] at e
    rw [killE_get, if_neg (fun z => n z.1)]; exact e
  have no : ∀ j, j ∈ own → j ∉ vs := fun j h z => dj j z h
  refine ⟨by rw [backE_length]; exact lk, fun j d e n => ?_, fun j d e n => ?_, R2.tm, fun j k d d' q hj hk e1 e2 e3 e4 => ?_, fun j d q d' hj e1 e2 => ?_, fun j d q hj hk e1 e2 => ?_, R2.nbT, R2.ndt, R2.base, R2.tr, R2.fr⟩
  · by_cases c : j ∈ vs
    · rw [backE_get] at e
      by_cases l : j < η2.length
      · rw [if_pos ⟨c, l⟩] at e
        have e : (η1[j]?).join = some d := Option.some.inj e
        have e : η1[j]? = some (some d) := by
          cases z : η1[j]? with
          | none => rw [z] at e; cases e
          | some o => rw [z] at e; have e : o = some d := e; rw [e]
        obtain ⟨v, z1, z2⟩ := R1.sh j d e n
        exact ⟨v, z1, Da.mv z2 m⟩
      · rw [if_neg (fun z => l z.2), List.getElem?_eq_none (by omega)] at e; cases e
    · rw [← sg j c]
      exact R2.sh j d (out j d c e) n
  · rw [← sg j (no j n)]
    exact R2.ow j d (out j d (no j n) e) n
  · rw [← sg j (no j hj)] at e3; rw [← sg k (no k hk)] at e4
    exact R2.ap j k d d' q hj hk (out j d (no j hj) e1) (out k d' (no k hk) e2) e3 e4
  · rw [← sg j (no j hj)] at e2
    exact R2.apt j d q d' hj (out j d (no j hj) e1) e2
  · rw [← sg j (no j hj)] at e2
    exact R2.nb j d q hj hk (out j d (no j hj) e1) e2
theorem wipe_idem (σ : L2.St) (vs : List Nat) : wipe (wipe σ vs) vs = wipe σ vs := by
  refine wipe_eq (wipe_length σ vs) fun j n => ?_
  rw [wipe_get, if_neg (fun z => n z.1)]
/-- the reading of a clause in all blocks -/
def BkE (X : Cx) (scope : Scope) (e : Expr) : TE := fun σ H Q => ∀ (s : Shared) (H0 : Hp) (C : Addr) (cl : List (Str × Addr)) (fp : List Addr), RE (X.blk s H0 scope (compEnvC scope cl C X.env) fp) e σ H Q
def BkT (X : Cx) (scope : Scope) (ifs : List Expr) : TT := fun σ H Q => ∀ (s : Shared) (H0 : Hp) (C : Addr) (cl : List (Str × Addr)) (fp : List Addr), RTs (X.blk s H0 scope (compEnvC scope cl C X.env) fp) ifs σ H Q
def BkG (X : Cx) (scope : Scope) (tg : Expr) : TG := fun v σ H Q => ∀ (s : Shared) (H0 : Hp) (C : Addr) (cl : List (Str × Addr)) (fp : List Addr), RG (X.blk s H0 scope (compEnvC scope cl C X.env) fp) tg v σ H Q
def BkI (X : Cx) (scope : Scope) (tg e : Expr) : TI := fun σ H Q => ∀ (s : Shared) (H0 : Hp) (C : Addr) (cl : List (Str × Addr)) (fp : List Addr), RI (X.blk s H0 scope (compEnvC scope cl C X.env) fp) tg e σ H Q
theorem evB_ok {c : E} {η η' : Env} {b : D} {k : Bool} (n : ∀ i, c ≠ .p i) (h : ev cf c η = .ok (b, η')) (t : truth b = .ok k) : evB cf c η = .ok (k, η') := by
  rw [evB_np n, h]
  show (noer (truth b)).bind _ = _
  rw [t]; rfl
def Stab (K : PySem.W.Frag) (own : List Nat) (B : Base) (L : List (Addr × D)) (Gd : (Addr → Prop) → Hp → Prop) : Prop :=
  ∀ (O : Addr → Prop) (H : Hp) (O' : Addr → Prop) (H' : Hp) (T'' : List (Addr × D)) (η : Env) (σ : L2.St), Gd O H → Mv O H O' H' → (∀ x, x ∈ L → x ∈ T'') → Rep K own B T'' O' η σ H' → Gd O' H'
/-- what a turn leaves -/
structure LcI (X : Cx) (own : List Nat) (B : Base) (T' : List (Addr × D)) (O1 : Addr → Prop) (H1 : Hp) (Gd : (Addr → Prop) → Hp → Prop) (σ : L2.St) (vs : List Nat) (Dl : Addr) (O' : Addr → Prop) (η : Env) (acc : List D) (H : Hp) : Prop where
  rep : Rep X.K own B ((Dl, .lst acc) :: T') O' (killE η vs) (wipe σ vs) H
  mv : Mv O1 H1 O' H
  gd : Gd O' H
  sub : ∀ a, O' a → O1 a ∨ a = Dl
theorem LcI.app {B : Base} {T' L : List (Addr × D)} {O1 : Addr → Prop} {H1 : Hp} {Gd : (Addr → Prop) → Hp → Prop} {σ : L2.St} {vs : List Nat} {Dl : Addr} {acc : List D} (W : Stab X.K own B L Gd) (hL : ∀ x, x ∈ L → x ∈ T')
    {O2 O3 : Addr → Prop} {H2 H3 : Hp} {η3 : Env} {σ3 : L2.St} {z : D} {y : V} (m : Mv O1 H1 O2 H2) (g : Gd O2 H2) (sb : ∀ a, O2 a → O1 a ∨ a = Dl) (i3 : ∀ a, O3 a → O2 a) (f3 : Fr O2 H2 H3) (R3 : Rep X.K own B ((Dl, .lst acc) :: T') O3 η3 σ3 H3) (hw : wipe σ3 vs = wipe σ vs) (hy : Da X.K H3 O3 z y) (hl : acc.length + 1 ≤ LIM) :
    ∃ xs, H3 Dl = some (.lst xs) ∧ xs.length < sizeLine ∧ LcI X own B T' O1 H1 Gd σ vs Dl O3 η3 (acc ++ [z]) (upd H3 Dl (.lst (xs ++ [y]))) := by
  obtain ⟨_, _, hob⟩ := R3.tm Dl _ (List.mem_cons_self ..)
  obtain ⟨xs, h1, h2, h3⟩ := hob.lstE
  have l := h3.length
  obtain ⟨R4, f4⟩ := R3.writeT (xs := xs ++ [y]) (ds := acc ++ [z]) (by rw [List.length_append, List.length_singleton]; omega) (h3.append (DaL.cons hy DaL.nil))
  have m4 : Mv O2 H2 O3 (upd H3 Dl (.lst (xs ++ [y]))) := (Mv.of f3 i3).trans (Mv.of f4 fun _ z => z)
  refine ⟨xs, h1, by rw [← LIM_line]; omega, ?_, m.trans m4, W _ _ _ _ _ _ _ g m4 (fun x hx => List.mem_cons_of_mem _ (hL x hx)) R4, fun a z => sb a (i3 a z)⟩
  have := R4.wipe vs
  rwa [hw] at this
theorem LcI.skip {B : Base} {T' L : List (Addr × D)} {O1 : Addr → Prop} {H1 : Hp} {Gd : (Addr → Prop) → Hp → Prop} {σ : L2.St} {vs : List Nat} {Dl : Addr} {acc : List D} (W : Stab X.K own B L Gd) (hL : ∀ x, x ∈ L → x ∈ T')
    {O2 O3 : Addr → Prop} {H2 H3 : Hp} {η3 : Env} {σ3 : L2.St} (m : Mv O1 H1 O2 H2) (g : Gd O2 H2) (sb : ∀ a, O2 a → O1 a ∨ a = Dl) (i3 : ∀ a, O3 a → O2 a) (f3 : Fr O2 H2 H3) (R3 : Rep X.K own B ((Dl, .lst acc) :: T') O3 η3 σ3 H3) (hw : wipe σ3 vs = wipe σ vs) :
    LcI X own B T' O1 H1 Gd σ vs Dl O3 η3 acc H3 := by
  have m4 : Mv O2 H2 O3 H3 := Mv.of f3 i3
  refine ⟨?_, m.trans m4, W _ _ _ _ _ _ _ g m4 (fun x hx => List.mem_cons_of_mem _ (hL x hx)) R3, fun a z => sb a (i3 a z)⟩
  have := R3.wipe vs
  rwa [hw] at this
/-- a comprehension of one clause -/
theorem lc_main {scope : Scope} {src e c : E} {t : Tg} {tg iter elt : Expr} {ifs : List Expr} (hc : X.calm = true) (hN : X.N.Nodup) (hdj : ∀ i ∈ tgSlots t, i ∉ own) (hsrc : SI G X cf own src tg iter)
    (htg : ∀ (s : Shared) (H0 : Hp) (C : Addr) (cl : List (Str × Addr)) (fp : List Addr), TgR (X.blk s H0 scope (compEnvC scope cl C X.env) fp) own t tg)
    (hcd : ∀ (s : Shared) (H0 : Hp) (C : Addr) (cl : List (Str × Addr)) (fp : List Addr), SC G (X.blk s H0 scope (compEnvC scope cl C X.env) fp) cf own c ifs) (ncp : ∀ i, c ≠ .p i)
    (hel : ∀ (s : Shared) (H0 : Hp) (C : Addr) (cl : List (Str × Addr)) (fp : List Addr), SE G (X.blk s H0 scope (compEnvC scope cl C X.env) fp) cf own e elt)
    {B : Base} {T : List (Addr × D)} {O : Addr → Prop} {η : Env} {σ : L2.St} {H : Hp} {Q : VK} (R : Rep X.K own B T O η σ H)
    (s : Sat (ev cf (.lc e t src c) η) (PostF X own B T O σ H Q) (XOk G X B σ)) : tLc (RI X tg iter) (BkG X scope tg) (BkT X scope ifs) (BkE X scope elt) (tgSlots t) σ H Q := by
  simp only [ev] at s
  have s := Sat.bind.mp s
  show RI X tg iter σ H _
  refine hsrc B T O η σ H _ R (Sat.mono s (fun r z => ?_) fun _ _ z => z)
  obtain ⟨ds, o, d, η1⟩ := r
  obtain ⟨⟨zs, ηe⟩, eL, z⟩ := okS z
  obtain ⟨η3, eU, z⟩ := okS z
  split at z
  rotate_left
  · exact z.elim
  rename_i lz
  have z : PostF X own B T O σ H Q (.lst zs, η3) := z
  intro O1 T' L0 J H1 Gd i1 R1 f1 W g1 lk Dl hD
  have hL := lk.mem
  have R1 : Rep X.K own B T' O1 η1 σ H1 := R1
  have W : WalkD X.K own B L0 J ds Gd := W
  have eL : lcGo t (tgSlots t) (ev cf c) (ev cf e) ds η1 = .ok (zs, ηe) := eL
  refine lc_it (J := J) (n := ds.length) (G := fun H => ∃ O', Gd O' H) (Y := J.yld) ⟨fun i H hi ⟨O', g⟩ => W.goes i O' H hi g, fun H ⟨O', g⟩ => W.stops O' H g, fun i H x H' hi g y => y⟩
    (fun i H2 => ∃ O' ηi acc rest, LcI X own B T' O1 H1 Gd σ (tgSlots t) Dl O' ηi acc H2 ∧ lcGo t (tgSlots t) (ev cf c) (ev cf e) (ds.drop i) ηi = .ok (rest, ηe) ∧ acc ++ rest = zs) ?_ ?_ ?_ ?_
  · have R2 := R1.push (xs := []) (ds := []) hD (Nat.zero_le _) DaL.nil
    have m : Mv O1 H1 _ _ := Mv.push (o := .lst []) hD
    exact ⟨_, η1, [], zs, ⟨R2.wipe _, m, W.stab _ _ _ _ _ _ _ g1 m (fun x hx => List.mem_cons_of_mem _ (hL x hx)) R2, fun a z => z⟩, eL, rfl⟩
  · rintro i H2 _ ⟨O', ηi, acc, rest, L, _⟩
    exact ⟨O', L.gd⟩
  · rintro i x H2 H3 hi ⟨O', ηi, acc, rest, L, eg, ez⟩ y
    obtain ⟨d', ed, hs, hd⟩ := W.yields i O' H2 x H3 hi L.gd y L.rep.tr
    have R2 := L.rep.same hs
    have ed' : ds.drop i = d' :: ds.drop (i + 1) := by
      rw [List.drop_eq_getElem_cons hi]
      rw [List.getElem?_eq_getElem hi] at ed
      cases ed; rfl
    rw [ed'] at eg
    simp only [lcGo] at eg
    obtain ⟨ηb, eb, eg⟩ := bindOk eg
    have eb := noerOk eb
    obtain ⟨⟨bd, ηc⟩, ec, eg⟩ := bindOk eg
    obtain ⟨k, ek, eg⟩ := bindOk eg
    have ek := noerOk ek
    have eB := evB_ok ncp ec ek
    have mi : Mv O1 H1 O' H3 := L.mv.trans (Mv.of (Same.fr hs) fun _ z => z)
    have gi : Gd O' H3 := W.stab _ _ _ _ _ _ _ L.gd (Mv.of (Same.fr hs) fun _ z => z) (fun x hx => List.mem_cons_of_mem _ (hL x hx)) R2
    intro s0 H0 C cl fp
    refine bind_ok (X := X.blk s0 H0 scope (compEnvC scope cl C X.env) fp) hc hN t tg d' x (killE ηi (tgSlots t)) ηb (wipe σ (tgSlots t)) _ (htg s0 H0 C cl fp) eb hd R2 fun σ2 R3 hs2 hl2 => ?_
    have hw : wipe σ2 (tgSlots t) = wipe σ (tgSlots t) := (wipe_eq hl2 hs2).trans (wipe_idem σ _)
    refine ⟨hw, ?_⟩
    intro s1 H4 C1 cl1 fp1
    refine (hcd s1 H4 C1 cl1 fp1).2 B _ O' ηb σ2 H3 _ R3 ?_
    rw [eB]
    intro O3 H5 i3 R4 f3
    cases k with
    | false =>
      refine ⟨O3, ηc, acc, rest, LcI.skip W.stab hL mi gi L.sub i3 f3 R4 hw, ?_, ez⟩
      exact eg
    | true =>
      obtain ⟨⟨zd, ηz⟩, ee, eg⟩ := bindOk (show ((ev cf e ηc).bind _) = _ from eg)
      obtain ⟨⟨rest', ηr⟩, er, eg⟩ := bindOk eg
      cases eg
      intro s2 H6 C2 cl2 fp2
      refine hel s2 H6 C2 cl2 fp2 B _ O3 ηc σ2 H5 _ R4 ?_
      rw [ee]
      intro O4 y4 H7 i4 R5 f4 o4
      have lz2 : acc.length + 1 ≤ LIM := by
        rw [← ez, List.length_append, List.length_cons] at lz
        omega
      obtain ⟨xs, h1, h2, L2'⟩ := LcI.app W.stab hL mi gi L.sub (fun a z => i3 a (i4 a z)) (f3.trans i3 f4) R5 hw o4 lz2
      exact ⟨xs, h1, h2, O4, ηz, acc ++ [zd], rest', L2', er, by rw [List.append_assoc]; exact ez⟩
  · rintro H2 ⟨O', ηi, acc, rest, L, eg, ez⟩
    rw [List.drop_length] at eg
    simp only [lcGo] at eg
    cases eg
    rw [List.append_nil] at ez
    subst ez
    obtain ⟨O2, xs, i2, k2, n2, R2, hg, hu, hl, hd⟩ := L.rep.unpush
    have m2 : Mv O1 H1 O2 (gone H2 Dl) := fun a o ea na => by
      have q := L.mv a o ea na
      have ne : a ≠ Dl := ne_of_none ea hD
      exact ⟨by unfold gone; rw [if_neg ne]; exact q.1, fun w => q.2 (i2 a w)⟩
    have R3 := unlock_ok eU lk (rep_back R2 R1 m2 hdj)
    have i3 : ∀ a, O2 a → O a := fun a w => by
      rcases L.sub a (i2 a w) with w1 | w1
      · exact i1 a w1
      · exact absurd (w1 ▸ w) n2
    have f3 : Fr O H (gone H2 Dl) := fun a o ea na => (m2 a o (f1 a o ea na) fun w => na (i1 a w)).1
    have q := z O2 (gone H2 Dl) Dl xs i3 R3 f3 hg hl hd
    rwa [hu] at q
theorem lc_lst {e : E} {t : Tg} {src c : E} : ∀ η d η', ev cf (.lc e t src c) η = .ok (d, η') → ∃ ds, d = .lst ds := by
  intro η d η' h
  simp only [ev] at h
  obtain ⟨_, _, h⟩ := bindOk h
  obtain ⟨_, _, h⟩ := bindOk h
  obtain ⟨_, _, h⟩ := bindOk h
  split at h
  · cases h; exact ⟨_, rfl⟩
  · cases h
theorem sf_lc {scope : Scope} {ow : List (Str × Nat)} {src e c : E} {t : Tg} {tg iter elt : Expr} {ifs : List Expr} {pos : Pos} (hc : X.calm = true) (hN : X.N.Nodup) (hdj : ∀ i ∈ tgSlots t, i ∉ own) (hsrc : SI G X cf own src tg iter)
    (ok : BlkOk X.N X.env.scope scope ow) (hv : ow.map (·.2) = tgSlots t)
    (htg : ∀ (s : Shared) (H0 : Hp) (C : Addr) (cl : List (Str × Addr)) (fp : List Addr), TgR (X.blk s H0 scope (compEnvC scope cl C X.env) fp) own t tg)
    (hcd : ∀ (s : Shared) (H0 : Hp) (C : Addr) (cl : List (Str × Addr)) (fp : List Addr), SC G (X.blk s H0 scope (compEnvC scope cl C X.env) fp) cf own c ifs) (ncp : ∀ i, c ≠ .p i)
    (hel : ∀ (s : Shared) (H0 : Hp) (C : Addr) (cl : List (Str × Addr)) (fp : List Addr), SE G (X.blk s H0 scope (compEnvC scope cl C X.env) fp) cf own e elt) (hf : ∀ es k p, iter ≠ .Set es k p) :
    SF G X cf own (.lc e t src c) (.ListComp elt [⟨tg, iter, ifs, 0⟩] scope pos) := by
  intro B T O η σ H Q R s
  refine RE.of (pe_lc hc hN (RI.pi tg iter) ok (g := BkG X scope tg) (tt := BkT X scope ifs) (te := BkE X scope elt) (fun s0 H0 C cl fp => ⟨fun pins s σ H v u Q I r h => h s0 H0 C cl fp pins s u I r⟩) (fun s0 H0 C cl fp => ⟨fun pins s σ H Q I h => h s0 H0 C cl fp pins s I⟩)
    (fun s0 H0 C cl fp => ⟨fun pins s σ H Q I h => h s0 H0 C cl fp pins s I⟩) (foldno hf X.env)) ?_
  rw [hv]
  exact lc_main hc hN hdj hsrc htg hcd ncp hel R s
end
end Py
set_option Elab.async false
set_option linter.all false
set_option maxRecDepth 100000
set_option maxHeartbeats 1000000
namespace Py
open PySem PySem.Spec PyProof.Rows L2
/-- a walk with what a turn is to reach -/
theorem it_gen {J : It} {n : Nat} {H0 : Hp} {Qd : Hp → Prop} (Step : Nat → Hp → (Hp → Prop) → Prop) (Pv : Nat → Hp → Prop) (h0 : Pv 0 H0) (hb : ∀ i H, Pv i H → i ≤ n) (go : ∀ i H, i < n → Pv i H → J.go i H ∧ Step i H (Pv (i + 1))) (stop : ∀ H, Pv n H → J.stop n H ∧ Qd H) :
    ∃ W : Nat → Nat → Hp → Prop, (∃ m, W 0 m H0) ∧ ∀ i m H, W i m H → (J.stop i H ∧ Qd H) ∨ (J.go i H ∧ ∃ Nx : Hp → Prop, (∀ H', Nx H' → ∃ m', m' < m ∧ W (i + 1) m' H') ∧ Step i H Nx) := by
  refine ⟨fun i m H => m = n - i ∧ Pv i H, ⟨n, by simp, h0⟩, ?_⟩
  rintro i m H ⟨rfl, p⟩
  have hi := hb i H p
  by_cases hlt : i < n
  · obtain ⟨h1, h2⟩ := go i H hlt p
    exact .inr ⟨h1, Pv (i + 1), fun H' p' => ⟨n - (i + 1), by omega, rfl, p'⟩, h2⟩
  · have e : i = n := by omega
    subst e
    exact .inl (stop H p)
theorem killE_sub {η : Env} {vs ws : List Nat} (h : ∀ i ∈ ws, i ∈ vs) : killE (killE η ws) vs = killE η vs := by
  apply List.ext_getElem?
  intro j
  rw [killE_get, killE_get, killE_get, killE_length]
  by_cases c : j ∈ vs ∧ j < η.length
  · rw [if_pos c, if_pos c]
  · rw [if_neg c, if_neg c]
    by_cases e : j ∈ ws ∧ j < η.length
    · exact absurd ⟨h j e.1, e.2⟩ c
    · rw [if_neg e]
theorem wipe_sub {σ : L2.St} {vs ws : List Nat} (h : ∀ i ∈ ws, i ∈ vs) : wipe (wipe σ ws) vs = wipe σ vs := by
  refine wipe_eq (wipe_length σ ws) fun j n => ?_
  rw [wipe_get, if_neg (fun z => n (h j z.1))]
section
variable {G : Exi} {X : Cx} {cf : CF} {own : List Nat}
theorem evSrc_inl {q : E} (n : ∀ i, q ≠ .p i) {η η' : Env} {ds : List D} {o : Opd} {d : D} (h : evSrc cf q η = .ok (ds, o, d, η')) : ∃ z, o = .inl z := by
  by_cases hp : plainSrc q = true
  · rw [evSrc_plain hp] at h
    obtain ⟨_, _, h⟩ := bindOk h
    obtain ⟨_, _, h⟩ := bindOk h
    cases h; exact ⟨_, rfl⟩
  · cases q with
    | rg1 a =>
      simp only [evSrc_rg1, evSrc_rg2, evSrc_zip, evSrc_enum, evSrc_k, evSrc_p] at h
      obtain ⟨_, _, h⟩ := bindOk h
      obtain ⟨_, _, h⟩ := bindOk h
      cases h; exact ⟨_, rfl⟩
    | rg2 a b =>
      simp only [evSrc_rg1, evSrc_rg2, evSrc_zip, evSrc_enum, evSrc_k, evSrc_p] at h
      obtain ⟨_, _, h⟩ := bindOk h
      obtain ⟨_, _, h⟩ := bindOk h
      obtain ⟨_, _, h⟩ := bindOk h
      cases h; exact ⟨_, rfl⟩
    | zip a b =>
      simp only [evSrc_rg1, evSrc_rg2, evSrc_zip, evSrc_enum, evSrc_k, evSrc_p] at h
      obtain ⟨_, _, h⟩ := bindOk h
      obtain ⟨_, _, h⟩ := bindOk h
      obtain ⟨_, _, h⟩ := bindOk h
      cases h; exact ⟨_, rfl⟩
    | enum a =>
      simp only [evSrc_rg1, evSrc_rg2, evSrc_zip, evSrc_enum, evSrc_k, evSrc_p] at h
      obtain ⟨_, _, h⟩ := bindOk h
      obtain ⟨_, _, h⟩ := bindOk h
      cases h; exact ⟨_, rfl⟩
    | k d => simp only [evSrc_rg1, evSrc_rg2, evSrc_zip, evSrc_enum, evSrc_k, evSrc_p] at h; cases h
    | p i => exact absurd rfl (n i)
    | _ => exact absurd rfl hp
theorem lc2_main {scope : Scope} {src src' e c c' : E} {t t' : Tg} {tg tg1 iter iter1 elt : Expr} {ifs ifs1 : List Expr} (hc : X.calm = true) (hN : X.N.Nodup) (hdj : ∀ i ∈ tgSlots t ++ tgSlots t', i ∉ own) (hsrc : SI G X cf own src tg iter)
    (htg : ∀ (s : Shared) (H0 : Hp) (C : Addr) (cl : List (Str × Addr)) (fp : List Addr), TgR (X.blk s H0 scope (compEnvC scope cl C X.env) fp) own t tg)
    (hcd : ∀ (s : Shared) (H0 : Hp) (C : Addr) (cl : List (Str × Addr)) (fp : List Addr), SC G (X.blk s H0 scope (compEnvC scope cl C X.env) fp) cf own c ifs) (ncp : ∀ i, c ≠ .p i)
    (hsrc1 : ∀ (s : Shared) (H0 : Hp) (C : Addr) (cl : List (Str × Addr)) (fp : List Addr), SI G (X.blk s H0 scope (compEnvC scope cl C X.env) fp) cf own src' tg1 iter1) (nsrc1 : ∀ i, src' ≠ .p i)
    (htg1 : ∀ (s : Shared) (H0 : Hp) (C : Addr) (cl : List (Str × Addr)) (fp : List Addr), TgR (X.blk s H0 scope (compEnvC scope cl C X.env) fp) own t' tg1)
    (hcd1 : ∀ (s : Shared) (H0 : Hp) (C : Addr) (cl : List (Str × Addr)) (fp : List Addr), SC G (X.blk s H0 scope (compEnvC scope cl C X.env) fp) cf own c' ifs1) (ncp1 : ∀ i, c' ≠ .p i)
    (hel : ∀ (s : Shared) (H0 : Hp) (C : Addr) (cl : List (Str × Addr)) (fp : List Addr), SE G (X.blk s H0 scope (compEnvC scope cl C X.env) fp) cf own e elt)
    {B : Base} {T : List (Addr × D)} {O : Addr → Prop} {η : Env} {σ : L2.St} {H : Hp} {Q : VK} (R : Rep X.K own B T O η σ H)
    (s : Sat (ev cf (.lc2 e t src c t' src' c') η) (PostF X own B T O σ H Q) (XOk G X B σ)) :
    tLc2 (RI X tg iter) (BkG X scope tg) (BkT X scope ifs) (BkI X scope tg1 iter1) (BkG X scope tg1) (BkT X scope ifs1) (BkE X scope elt) (tgSlots t ++ tgSlots t') (tgSlots t') σ H Q := by
  simp only [ev] at s
  generalize hvs : tgSlots t ++ tgSlots t' = vs at *
  have hin : ∀ i ∈ tgSlots t', i ∈ vs := fun i h => by rw [← hvs]; exact List.mem_append_right _ h
  have hout : ∀ j, j ∉ vs → j ∉ tgSlots t := fun j n h => n (by rw [← hvs]; exact List.mem_append_left _ h)
  have s := Sat.bind.mp s
  show RI X tg iter σ H _
  refine hsrc B T O η σ H _ R (Sat.mono s (fun r z => ?_) fun _ _ z => z)
  obtain ⟨ds, o, d, η1⟩ := r
  obtain ⟨⟨zs, ηe⟩, eL, z⟩ := okS z
  obtain ⟨η3, eU, z⟩ := okS z
  split at z
  rotate_left
  · exact z.elim
  rename_i lz
  have lz : zs.length ≤ LIM := lz
  have z : PostF X own B T O σ H Q (.lst zs, η3) := z
  intro O1 T' L0 J H1 Gd i1 R1 f1 W g1 lk Dl hD
  have hL := lk.mem
  have R1 : Rep X.K own B T' O1 η1 σ H1 := R1
  have W : WalkD X.K own B L0 J ds Gd := W
  have eL : lc2Go t vs (ev cf c) t' (tgSlots t') (evSrc cf src') (ev cf c') (ev cf e) ds η1 = .ok (zs, ηe) := eL
  refine it_gen (J := J) (n := ds.length) (fun i H Nx => ∀ x H', J.yld i H x H' → BkG X scope tg x (wipe σ vs) H' fun σ2 H2 => wipe σ2 vs = wipe σ vs ∧ BkT X scope ifs σ2 H2 fun b H3 =>
      if b = true then BkI X scope tg1 iter1 σ2 H3 fun J1 H4 => ∃ W1 : Nat → Nat → Hp → Prop, (∃ m, W1 0 m H4) ∧ ∀ j k H, W1 j k H →
        (J1.stop j H ∧ Nx H) ∨ (J1.go j H ∧ ∃ Nx1 : Hp → Prop, (∀ H', Nx1 H' → ∃ k', k' < k ∧ W1 (j + 1) k' H') ∧ ∀ x H', J1.yld j H x H' → BkG X scope tg1 x (wipe σ2 (tgSlots t')) H' fun σ3 H5 => wipe σ3 (tgSlots t') = wipe σ2 (tgSlots t') ∧ BkT X scope ifs1 σ3 H5 fun b H6 =>
          if b = true then BkE X scope elt σ3 H6 fun y H7 => ∃ acc, H7 Dl = some (.lst acc) ∧ acc.length < sizeLine ∧ Nx1 (upd H7 Dl (.lst (acc ++ [y]))) else Nx1 H6)
      else Nx H3)
    (fun i H2 => i ≤ ds.length ∧ ∃ O' ηi acc rest, LcI X own B T' O1 H1 Gd σ vs Dl O' ηi acc H2 ∧ lc2Go t vs (ev cf c) t' (tgSlots t') (evSrc cf src') (ev cf c') (ev cf e) (ds.drop i) ηi = .ok (rest, ηe) ∧ acc ++ rest = zs) ?_ (fun i H p => p.1) ?_ ?_
  · have R2 := R1.push (xs := []) (ds := []) hD (Nat.zero_le _) DaL.nil
    have m : Mv O1 H1 _ _ := Mv.push (o := .lst []) hD
    exact ⟨Nat.zero_le _, _, η1, [], zs, ⟨R2.wipe _, m, W.stab _ _ _ _ _ _ _ g1 m (fun x hx => List.mem_cons_of_mem _ (hL x hx)) R2, fun a z => z⟩, eL, rfl⟩
  · rintro i H2 hi ⟨_, O', ηi, acc, rest, L, eg, ez⟩
    refine ⟨W.goes i O' H2 hi L.gd, fun x H3 y => ?_⟩
    obtain ⟨d', ed, hs, hd⟩ := W.yields i O' H2 x H3 hi L.gd y L.rep.tr
    have R2 := L.rep.same hs
    have ed' : ds.drop i = d' :: ds.drop (i + 1) := by
      rw [List.drop_eq_getElem_cons hi]
      rw [List.getElem?_eq_getElem hi] at ed
      cases ed; rfl
    rw [ed'] at eg
    simp only [lc2Go] at eg
    obtain ⟨ηb, eb, eg⟩ := bindOk eg
    have eb := noerOk eb
    obtain ⟨⟨bd, ηc⟩, ec, eg⟩ := bindOk eg
    obtain ⟨k, ek, eg⟩ := bindOk eg
    have ek := noerOk ek
    have eB := evB_ok ncp ec ek
    have mi : Mv O1 H1 O' H3 := L.mv.trans (Mv.of (Same.fr hs) fun _ z => z)
    have gi : Gd O' H3 := W.stab _ _ _ _ _ _ _ L.gd (Mv.of (Same.fr hs) fun _ z => z) (fun x hx => List.mem_cons_of_mem _ (hL x hx)) R2
    intro s0 H0 C cl fp
    refine bind_ok (X := X.blk s0 H0 scope (compEnvC scope cl C X.env) fp) hc hN t tg d' x (killE ηi vs) ηb (wipe σ vs) _ (htg s0 H0 C cl fp) eb hd R2 fun σ2 R3 hs2 hl2 => ?_
    have hw : wipe σ2 vs = wipe σ vs := (wipe_eq hl2 fun j n => hs2 j (hout j n)).trans (wipe_idem σ _)
    refine ⟨hw, ?_⟩
    intro s1 H4 C1 cl1 fp1
    refine (hcd s1 H4 C1 cl1 fp1).2 B _ O' ηb σ2 H3 _ R3 ?_
    rw [eB]
    intro O3 H5 i3 R4 f3
    cases k with
    | false =>
      refine ⟨hi, O3, ηc, acc, rest, LcI.skip W.stab hL mi gi L.sub i3 f3 R4 hw, ?_, ez⟩
      exact eg
    | true =>
      obtain ⟨⟨ds1, o1, d1, ηs⟩, es, eg⟩ := bindOk (show ((evSrc cf src' ηc).bind _) = _ from eg)
      obtain ⟨⟨zs1, η4⟩, e4, eg⟩ := bindOk eg
      obtain ⟨η5, e5, eg⟩ := bindOk eg
      obtain ⟨⟨ws, η6⟩, e6, eg⟩ := bindOk eg
      cases eg
      obtain ⟨zo, rfl⟩ := evSrc_inl nsrc1 es
      have e5 : η4 = η5 := by have e5 := noerOk e5; cases e5; rfl
      subst e5
      intro s2 H6 C2 cl2 fp2
      refine hsrc1 s2 H6 C2 cl2 fp2 B _ O3 ηc σ2 H5 _ R4 ?_
      rw [es]
      intro O4 T4 L4 J1 H7 Gd1 i4 R5 f4 W1 g4 lk4
      obtain ⟨rfl, rfl⟩ := (show T4 = _ ∧ L4 = [] from lk4)
      have W1 : WalkD X.K own B [] J1 ds1 Gd1 := W1
      have R5 : Rep X.K own B ((Dl, .lst acc) :: T') O4 ηs σ2 H7 := R5
      have m5 : Mv O' H3 O4 H7 := (Mv.of f3 i3).trans (Mv.of f4 i4)
      have st2 : Stab X.K own B L0 (fun O H => Gd O H ∧ Gd1 O H) := fun a b c d e f g h m l r => ⟨W.stab a b c d e f g h.1 m l r, W1.stab a b c d e f g h.2 m (fun x hx => nomatch hx) r⟩
      refine it_gen (J := J1) (n := ds1.length) (fun j H Nx1 => ∀ x H', J1.yld j H x H' → BkG X scope tg1 x (wipe σ2 (tgSlots t')) H' fun σ3 H5 => wipe σ3 (tgSlots t') = wipe σ2 (tgSlots t') ∧ BkT X scope ifs1 σ3 H5 fun b H6 =>
          if b = true then BkE X scope elt σ3 H6 fun y H7 => ∃ acc, H7 Dl = some (.lst acc) ∧ acc.length < sizeLine ∧ Nx1 (upd H7 Dl (.lst (acc ++ [y]))) else Nx1 H6)
        (fun j H2 => j ≤ ds1.length ∧ ∃ O' ηi acc' rest, LcI X own B T' O1 H1 (fun O H => Gd O H ∧ Gd1 O H) σ2 (tgSlots t') Dl O' ηi acc' H2 ∧ lcGo t' (tgSlots t') (ev cf c') (ev cf e) (ds1.drop j) ηi = .ok (rest, η4) ∧ acc' ++ rest = acc ++ zs1) ?_ (fun j H p => p.1) ?_ ?_
      · exact ⟨Nat.zero_le _, O4, ηs, acc, zs1, ⟨R5.wipe _, mi.trans m5, ⟨W.stab _ _ _ _ _ _ _ gi m5 (fun x hx => List.mem_cons_of_mem _ (hL x hx)) R5, g4⟩, fun a z => L.sub a (i3 a (i4 a z))⟩, e4, rfl⟩
      · rintro j H8 hj ⟨_, P', ηj, acc', rest', M, eg', ez'⟩
        refine ⟨W1.goes j P' H8 hj M.gd.2, fun x8 H9 y8 => ?_⟩
        obtain ⟨d8, ed8, hs8, hd8⟩ := W1.yields j P' H8 x8 H9 hj M.gd.2 y8 M.rep.tr
        have R6 := M.rep.same hs8
        have ed9 : ds1.drop j = d8 :: ds1.drop (j + 1) := by
          rw [List.drop_eq_getElem_cons hj]
          rw [List.getElem?_eq_getElem hj] at ed8
          cases ed8; rfl
        rw [ed9] at eg'
        simp only [lcGo] at eg'
        obtain ⟨ηb', eb', eg'⟩ := bindOk eg'
        have eb' := noerOk eb'
        obtain ⟨⟨bd', ηc'⟩, ec', eg'⟩ := bindOk eg'
        obtain ⟨k', ek', eg'⟩ := bindOk eg'
        have ek' := noerOk ek'
        have eB' := evB_ok ncp1 ec' ek'
        have mi' : Mv O1 H1 P' H9 := M.mv.trans (Mv.of (Same.fr hs8) fun _ z => z)
        have gi' : Gd P' H9 ∧ Gd1 P' H9 := st2 _ _ _ _ _ _ _ M.gd (Mv.of (Same.fr hs8) fun _ z => z) (fun x hx => List.mem_cons_of_mem _ (hL x hx)) R6
        intro s3 H10 C3 cl3 fp3
        refine bind_ok (X := X.blk s3 H10 scope (compEnvC scope cl3 C3 X.env) fp3) hc hN t' tg1 d8 x8 (killE ηj (tgSlots t')) ηb' (wipe σ2 (tgSlots t')) _ (htg1 s3 H10 C3 cl3 fp3) eb' hd8 R6 fun σ3 R7 hs3 hl3 => ?_
        have hw' : wipe σ3 (tgSlots t') = wipe σ2 (tgSlots t') := (wipe_eq hl3 hs3).trans (wipe_idem σ2 _)
        refine ⟨hw', ?_⟩
        intro s4 H11 C4 cl4 fp4
        refine (hcd1 s4 H11 C4 cl4 fp4).2 B _ P' ηb' σ3 H9 _ R7 ?_
        rw [eB']
        intro P3 H12 i7 R8 f7
        cases k' with
        | false => exact ⟨hj, P3, ηc', acc', rest', LcI.skip st2 hL mi' gi' M.sub i7 f7 R8 hw', eg', ez'⟩
        | true =>
          obtain ⟨⟨zd, ηz⟩, ee, eg'⟩ := bindOk (show ((ev cf e ηc').bind _) = _ from eg')
          obtain ⟨⟨rest2, ηr⟩, er, eg'⟩ := bindOk eg'
          cases eg'
          intro s5 H13 C5 cl5 fp5
          refine hel s5 H13 C5 cl5 fp5 B _ P3 ηc' σ3 H12 _ R8 ?_
          rw [ee]
          intro P4 y4 H14 i8 R9 f8 o8
          have lz2 : acc'.length + 1 ≤ LIM := by
            have l1 : (acc' ++ zd :: rest2).length = (acc ++ zs1).length := by rw [ez']
            have l2 : (acc ++ (zs1 ++ ws)).length = zs.length := by rw [ez]
            simp only [List.length_append, List.length_cons] at l1 l2
            omega
          obtain ⟨xs, h1, h2, L2'⟩ := LcI.app st2 hL mi' gi' M.sub (fun a z => i7 a (i8 a z)) (f7.trans i7 f8) R9 hw' o8 lz2
          exact ⟨xs, h1, h2, hj, P4, ηz, acc' ++ [zd], rest2, L2', er, by rw [List.append_assoc]; exact ez'⟩
      · rintro H8 ⟨_, P', ηj, acc', rest', M, eg', ez'⟩
        rw [List.drop_length] at eg'
        simp only [lcGo] at eg'
        cases eg'
        rw [List.append_nil] at ez'
        subst ez'
        refine ⟨W1.stops P' H8 M.gd.2, hi, P', η4, acc ++ zs1, ws, ⟨?_, M.mv, M.gd.1, M.sub⟩, e6, by rw [List.append_assoc]; exact ez⟩
        have R9 := M.rep.wipe vs
        rwa [killE_sub hin, wipe_sub hin, hw] at R9
  · rintro H2 ⟨_, O', ηi, acc, rest, L, eg, ez⟩
    refine ⟨W.stops O' H2 L.gd, ?_⟩
    rw [List.drop_length] at eg
    simp only [lc2Go] at eg
    cases eg
    rw [List.append_nil] at ez
    subst ez
    obtain ⟨O2, xs, i2, k2, n2, R2, hg, hu, hl, hd⟩ := L.rep.unpush
    have m2 : Mv O1 H1 O2 (gone H2 Dl) := fun a o ea na => by
      have q := L.mv a o ea na
      have ne : a ≠ Dl := ne_of_none ea hD
      exact ⟨by unfold gone; rw [if_neg ne]; exact q.1, fun w => q.2 (i2 a w)⟩
    have R3 := unlock_ok eU lk (rep_back R2 R1 m2 hdj)
    have i3 : ∀ a, O2 a → O a := fun a w => by
      rcases L.sub a (i2 a w) with w1 | w1
      · exact i1 a w1
      · exact absurd (w1 ▸ w) n2
    have f3 : Fr O H (gone H2 Dl) := fun a o ea na => (m2 a o (f1 a o ea na) fun w => na (i1 a w)).1
    have q := z O2 (gone H2 Dl) Dl xs i3 R3 f3 hg hl hd
    rwa [hu] at q
theorem lc2_lst {e : E} {t t' : Tg} {src c src' c' : E} : ∀ η d η', ev cf (.lc2 e t src c t' src' c') η = .ok (d, η') → ∃ ds, d = .lst ds := by
  intro η d η' h
  simp only [ev] at h
  obtain ⟨_, _, h⟩ := bindOk h
  obtain ⟨_, _, h⟩ := bindOk h
  obtain ⟨_, _, h⟩ := bindOk h
  split at h
  · cases h; exact ⟨_, rfl⟩
  · cases h
theorem sf_lc2 {scope : Scope} {ow : List (Str × Nat)} {src src' e c c' : E} {t t' : Tg} {tg tg1 iter iter1 elt : Expr} {ifs ifs1 : List Expr} {pos : Pos} (hc : X.calm = true) (hN : X.N.Nodup) (hdj : ∀ i ∈ tgSlots t ++ tgSlots t', i ∉ own) (hsrc : SI G X cf own src tg iter)
    (ok : BlkOk X.N X.env.scope scope ow) (hv : ow.map (·.2) = tgSlots t ++ tgSlots t')
    (htg : ∀ (s : Shared) (H0 : Hp) (C : Addr) (cl : List (Str × Addr)) (fp : List Addr), TgR (X.blk s H0 scope (compEnvC scope cl C X.env) fp) own t tg)
    (hcd : ∀ (s : Shared) (H0 : Hp) (C : Addr) (cl : List (Str × Addr)) (fp : List Addr), SC G (X.blk s H0 scope (compEnvC scope cl C X.env) fp) cf own c ifs) (ncp : ∀ i, c ≠ .p i)
    (hsrc1 : ∀ (s : Shared) (H0 : Hp) (C : Addr) (cl : List (Str × Addr)) (fp : List Addr), SI G (X.blk s H0 scope (compEnvC scope cl C X.env) fp) cf own src' tg1 iter1) (nsrc1 : ∀ i, src' ≠ .p i)
    (htg1 : ∀ (s : Shared) (H0 : Hp) (C : Addr) (cl : List (Str × Addr)) (fp : List Addr), TgR (X.blk s H0 scope (compEnvC scope cl C X.env) fp) own t' tg1)
    (hcd1 : ∀ (s : Shared) (H0 : Hp) (C : Addr) (cl : List (Str × Addr)) (fp : List Addr), SC G (X.blk s H0 scope (compEnvC scope cl C X.env) fp) cf own c' ifs1) (ncp1 : ∀ i, c' ≠ .p i)
    (hel : ∀ (s : Shared) (H0 : Hp) (C : Addr) (cl : List (Str × Addr)) (fp : List Addr), SE G (X.blk s H0 scope (compEnvC scope cl C X.env) fp) cf own e elt) (hf : ∀ es k p, iter ≠ .Set es k p) (hf1 : ∀ es k p, iter1 ≠ .Set es k p) :
    SF G X cf own (.lc2 e t src c t' src' c') (.ListComp elt [⟨tg, iter, ifs, 0⟩, ⟨tg1, iter1, ifs1, 0⟩] scope pos) := by
  intro B T O η σ H Q R s
  refine RE.of (pe_lc2 hc hN (RI.pi tg iter) ok (vs1 := tgSlots t') (g := BkG X scope tg) (tt := BkT X scope ifs) (wi1 := BkI X scope tg1 iter1) (g1 := BkG X scope tg1) (tt1 := BkT X scope ifs1) (te := BkE X scope elt) (fun i hi => by rw [hv]; exact List.mem_append_right _ hi)
    (fun s0 H0 C cl fp => ⟨fun pins s σ H v u Q I r h => h s0 H0 C cl fp pins s u I r⟩) (fun s0 H0 C cl fp => ⟨fun pins s σ H Q I h => h s0 H0 C cl fp pins s I⟩)
    (fun s0 H0 C cl fp => ⟨fun pins s σ H R I h => h s0 H0 C cl fp pins s I⟩) (fun s0 H0 C cl fp => ⟨fun pins s σ H v u Q I r h => h s0 H0 C cl fp pins s u I r⟩) (fun s0 H0 C cl fp => ⟨fun pins s σ H Q I h => h s0 H0 C cl fp pins s I⟩)
    (fun s0 H0 C cl fp => ⟨fun pins s σ H Q I h => h s0 H0 C cl fp pins s I⟩) (foldno hf X.env) (foldno hf1)) ?_
  rw [hv]
  exact lc2_main hc hN hdj hsrc htg hcd ncp hsrc1 nsrc1 htg1 hcd1 ncp1 hel R s
end
end Py
set_option Elab.async false
set_option linter.all false
set_option maxRecDepth 100000
set_option maxHeartbeats 1000000
/-! dicts made anew -/
namespace Py
open PySem PySem.Spec PyProof.Rows L2
theorem dcPut_dc (ks : List Int) (ds : List D) (j : Int) (e : D) : ∃ ks' ds', dcPut ks ds j e = .dc ks' ds' := by
  unfold dcPut
  split <;> exact ⟨_, _, rfl⟩
theorem putK_dc {ks : List Int} {ds : List D} {j d z : D} (h : putK (.dc ks ds) j d = .ok z) : ∃ k ks' ds', j = .int k ∧ ks.length < LIM ∧ dcPut ks ds k d = .dc ks' ds' ∧ z = .dc ks' ds' := by
  unfold putK at h
  cases j with
  | int k =>
    dsimp only at h
    split at h
    · rename_i c
      cases h
      obtain ⟨a, b, e⟩ := dcPut_dc ks ds k d
      exact ⟨k, a, b, rfl, c, e, e⟩
    · cases h
  | _ => cases h
section
variable {G : Exi} {X : Cx} {cf : CF} {own : List Nat}
theorem sf_dnew {pos : Pos} : SF G X cf own .dnew (.Dict [] [] pos) := by
  intro B T O η σ H Q R s
  simp only [ev] at s
  refine RE.of pe_dnewK fun p hp => ?_
  exact s O H p [] (fun _ z => z) R Fr.refl hp (Nat.zero_le _) rfl DaL.nil
theorem dnew_dc : ∀ η d η', ev cf .dnew η = .ok (d, η') → (∃ ds, d = .lst ds) ∨ ∃ ks ds, d = .dc ks ds := by
  intro η d η' h
  simp only [ev] at h
  cases h; exact .inr ⟨_, _, rfl⟩
theorem sf_dd {a b : E} {ea eb : Expr} {pos : Pos} (ha : SE G X cf own a ea) (hb : SE G X cf own b eb) : SF G X cf own (.dd a b) (.Dict [some ea] [eb] pos) := by
  intro B T O η σ H Q R s
  simp only [ev] at s
  refine RE.of (pe_disp (pps_cons (RE.pe ea) (RE.pe eb) pps_nil) rfl rfl (fun z => by cases z) (by show 1 ≤ 15; omega)) fun p hp => ?_
  show RE X ea σ (upd H p (.dK [])) fun x H1 => RE X eb σ H1 fun y H2 => H2 p = some (.dK []) ∧ ∃ kvs : List (Key × V), [(x, y)] = kvs.map (fun kv => (kV kv.1, kv.2)) ∧ kvs.length ≤ 15 ∧ Q (.ref p) (upd H2 p (.dK (mergeK [] kvs)))
  have R0 := R.pushO (Sh.dc (ks := []) (ds := []) (xs := []) rfl) hp (Nat.zero_le _) DaL.nil
  refine one' ha R0 (QF := PostF X own B T O σ H Q) s fun x η1 O1 v H1 s1 i1 R1 f1 o1 => ?_
  refine one' hb R1 s1 fun y η2 O2 u H2 s2 i2 R2 f2 o2 => ?_
  obtain ⟨k, e1, s2⟩ := okS s2
  have e1 := dIntS e1
  subst e1
  have e2 := (o1.fr f2 i2).int_of
  subst e2
  obtain ⟨hO, _, hob⟩ := R2.tm p _ (List.mem_cons_self ..)
  obtain ⟨xs0, hp2, _, _, _⟩ := hob.dcE
  obtain ⟨O3, xs, i3, k3, n3, R3, hg, hu, hl, hd, hk⟩ := R2.unpushD
  have ne : ∀ a o, H a = some o → a ≠ p := fun a o e => ne_of_none e hp
  have mv3 : Mv O2 H2 O3 (gone H2 p) := fun a o e n => by
    have np : a ≠ p := fun z => n (z ▸ hO)
    exact ⟨by unfold gone; rw [if_neg np]; exact e, fun w => n (i3 a w)⟩
  have i : ∀ a, O3 a → O a := fun a w => by
    rcases i1 a (i2 a (i3 a w)) with w1 | w1
    · exact w1
    · exact absurd (w1 ▸ w) n3
  have fr : Fr O H (gone H2 p) := fun a o e n => by
    have np := ne a o e
    have n1 : ¬ (O a ∨ a = p) := fun z => z.elim n np
    have e1 := f1 a o ((upd_ne np).trans e) n1
    have e2 := f2 a o e1 fun z => n1 (i1 a z)
    unfold gone; rw [if_neg np]; exact e2
  have q := s2 O3 (gone H2 p) p [u] i R3 fr hg (show 1 ≤ 16777216 by omega) rfl (DaL.cons (o2.mv mv3) DaL.nil)
  refine ⟨hp2, [(.inl k, u)], rfl, by show 1 ≤ 15; omega, ?_⟩
  have eu : upd (gone H2 p) p (.dK (kvz [k] [u])) = upd H2 p (.dK (mergeK [] [(.inl k, u)])) := by
    funext a
    by_cases z : a = p
    · subst z; rw [upd_same, upd_same]; rfl
    · rw [upd_ne z, upd_ne z]; unfold gone; rw [if_neg z]
  rw [← eu]
  exact q
theorem dd_dc {a b : E} : ∀ η d η', ev cf (.dd a b) η = .ok (d, η') → (∃ ds, d = .lst ds) ∨ ∃ ks ds, d = .dc ks ds := by
  intro η d η' h
  simp only [ev] at h
  obtain ⟨_, _, h⟩ := bindOk h
  obtain ⟨_, _, h⟩ := bindOk h
  obtain ⟨_, _, h⟩ := bindOk h
  cases h; exact .inr ⟨_, _, rfl⟩
end
section
variable {J : It} {n : Nat} {Gg : Hp → Prop} {Y : Nat → Hp → V → Hp → Prop}
/-- a comprehension to a dict: its turns -/
theorem dc_it (w : Walk J n Gg Y) {g : TG} {tt : TT} {tk te : TE} {vs : List Nat} {σ : L2.St} {H1 : Hp} {Da : Addr} {Qd : Hp → Prop} (Pv : Nat → Hp → Prop) (h0 : Pv 0 (upd H1 Da (.dK []))) (hG : ∀ i H, i ≤ n → Pv i H → Gg H)
    (hs : ∀ i x H H', i < n → Pv i H → Y i H x H' → g x (wipe σ vs) H' fun σ2 H2 => wipe σ2 vs = wipe σ vs ∧ tt σ2 H2 fun b H3 =>
      if b = true then tk σ2 H3 fun y H4 => te σ2 H4 fun z H5 => ∃ kvs k, y = kV k ∧ H5 Da = some (.dK kvs) ∧ kvs.length < sizeLine ∧ Pv (i + 1) (upd H5 Da (.dK (L2.putK kvs k z))) else Pv (i + 1) H3) (hd : ∀ H, Pv n H → Qd H) :
    ∃ W : Nat → Nat → Hp → Prop, (∃ m, W 0 m (upd H1 Da (.dK []))) ∧ ∀ i m H, W i m H →
      (J.stop i H ∧ Qd H) ∨ (J.go i H ∧ ∃ Nx : Hp → Prop, (∀ H', Nx H' → ∃ m', m' < m ∧ W (i + 1) m' H') ∧ ∀ x H', J.yld i H x H' → g x (wipe σ vs) H' fun σ2 H2 => wipe σ2 vs = wipe σ vs ∧ tt σ2 H2 fun b H3 =>
        if b = true then tk σ2 H3 fun y H4 => te σ2 H4 fun z H5 => ∃ kvs k, y = kV k ∧ H5 Da = some (.dK kvs) ∧ kvs.length < sizeLine ∧ Nx (upd H5 Da (.dK (L2.putK kvs k z))) else Nx H3) := by
  refine ⟨fun i m H => m = n - i ∧ i ≤ n ∧ Pv i H, ⟨n, by simp, Nat.zero_le _, h0⟩, ?_⟩
  rintro i m H ⟨rfl, hi, p⟩
  have q := hG i H hi p
  by_cases hlt : i < n
  · refine .inr ⟨w.goes i H hlt q, Pv (i + 1), fun H' p' => ⟨n - (i + 1), by omega, rfl, hlt, p'⟩, fun x H' y => hs i x H H' hlt p (w.yields i H x H' hlt q y)⟩
  · have e : i = n := by omega
    subst e
    exact .inl ⟨w.stops H q, hd H p⟩
end
section
variable {G : Exi} {X : Cx} {cf : CF} {own : List Nat}
structure DcI (X : Cx) (own : List Nat) (B : Base) (T' : List (Addr × D)) (O1 : Addr → Prop) (H1 : Hp) (Gd : (Addr → Prop) → Hp → Prop) (σ : L2.St) (vs : List Nat) (Dl : Addr) (O' : Addr → Prop) (η : Env) (acc : D) (H : Hp) : Prop where
  rep : Rep X.K own B ((Dl, acc) :: T') O' (killE η vs) (wipe σ vs) H
  mv : Mv O1 H1 O' H
  gd : Gd O' H
  sub : ∀ a, O' a → O1 a ∨ a = Dl
theorem DcI.put {B : Base} {T' L : List (Addr × D)} {O1 : Addr → Prop} {H1 : Hp} {Gd : (Addr → Prop) → Hp → Prop} {σ : L2.St} {vs : List Nat} {Dl : Addr} {ks ks' : List Int} {zs zs' : List D} (W : Stab X.K own B L Gd) (hL : ∀ x, x ∈ L → x ∈ T')
    {O2 O3 : Addr → Prop} {H2 H3 : Hp} {η3 : Env} {σ3 : L2.St} {k : Int} {z : D} {y : V} (m : Mv O1 H1 O2 H2) (g : Gd O2 H2) (sb : ∀ a, O2 a → O1 a ∨ a = Dl) (i3 : ∀ a, O3 a → O2 a) (f3 : Fr O2 H2 H3) (R3 : Rep X.K own B ((Dl, .dc ks zs) :: T') O3 η3 σ3 H3) (hw : wipe σ3 vs = wipe σ vs) (hy : Da X.K H3 O3 z y) (hl : ks.length < LIM) (hp : dcPut ks zs k z = .dc ks' zs') :
    ∃ kvs, H3 Dl = some (.dK kvs) ∧ kvs.length < sizeLine ∧ DcI X own B T' O1 H1 Gd σ vs Dl O3 η3 (.dc ks' zs') (upd H3 Dl (.dK (L2.putK kvs (.inl k) y))) := by
  obtain ⟨_, _, hob⟩ := R3.tm Dl _ (List.mem_cons_self ..)
  obtain ⟨xs, h1, hk, h2, h3⟩ := hob.dcE
  have l := h3.length
  obtain ⟨ka, da, xa, y1, y2, y3, y4, y5⟩ := kvz_put (j := k) hk h3 hy
  rw [hp] at y1
  cases y1
  have l2 := y4.length
  obtain ⟨R4, f4⟩ := R3.writeTO (Sh.dc y3) (xs := xa) (by omega) y4
  rw [← y2] at R4 f4
  have m4 : Mv O2 H2 O3 _ := (Mv.of f3 i3).trans (Mv.of f4 fun _ z => z)
  refine ⟨_, h1, by rw [kvz_len (by omega), ← LIM_line]; omega, ?_, m.trans m4, W _ _ _ _ _ _ _ g m4 (fun x hx => List.mem_cons_of_mem _ (hL x hx)) R4, fun a z => sb a (i3 a z)⟩
  have := R4.wipe vs
  rwa [hw] at this
theorem DcI.skip {B : Base} {T' L : List (Addr × D)} {O1 : Addr → Prop} {H1 : Hp} {Gd : (Addr → Prop) → Hp → Prop} {σ : L2.St} {vs : List Nat} {Dl : Addr} {acc : D} (W : Stab X.K own B L Gd) (hL : ∀ x, x ∈ L → x ∈ T')
    {O2 O3 : Addr → Prop} {H2 H3 : Hp} {η3 : Env} {σ3 : L2.St} (m : Mv O1 H1 O2 H2) (g : Gd O2 H2) (sb : ∀ a, O2 a → O1 a ∨ a = Dl) (i3 : ∀ a, O3 a → O2 a) (f3 : Fr O2 H2 H3) (R3 : Rep X.K own B ((Dl, acc) :: T') O3 η3 σ3 H3) (hw : wipe σ3 vs = wipe σ vs) :
    DcI X own B T' O1 H1 Gd σ vs Dl O3 η3 acc H3 := by
  have m4 : Mv O2 H2 O3 H3 := Mv.of f3 i3
  refine ⟨?_, m.trans m4, W _ _ _ _ _ _ _ g m4 (fun x hx => List.mem_cons_of_mem _ (hL x hx)) R3, fun a z => sb a (i3 a z)⟩
  have := R3.wipe vs
  rwa [hw] at this
theorem dc_main {scope : Scope} {src a e c : E} {t : Tg} {tg iter ka elt : Expr} {ifs : List Expr} (hc : X.calm = true) (hN : X.N.Nodup) (hdj : ∀ i ∈ tgSlots t, i ∉ own) (hsrc : SI G X cf own src tg iter)
    (htg : ∀ (s : Shared) (H0 : Hp) (C : Addr) (cl : List (Str × Addr)) (fp : List Addr), TgR (X.blk s H0 scope (compEnvC scope cl C X.env) fp) own t tg)
    (hcd : ∀ (s : Shared) (H0 : Hp) (C : Addr) (cl : List (Str × Addr)) (fp : List Addr), SC G (X.blk s H0 scope (compEnvC scope cl C X.env) fp) cf own c ifs) (ncp : ∀ i, c ≠ .p i)
    (hka : ∀ (s : Shared) (H0 : Hp) (C : Addr) (cl : List (Str × Addr)) (fp : List Addr), SE G (X.blk s H0 scope (compEnvC scope cl C X.env) fp) cf own a ka)
    (hel : ∀ (s : Shared) (H0 : Hp) (C : Addr) (cl : List (Str × Addr)) (fp : List Addr), SE G (X.blk s H0 scope (compEnvC scope cl C X.env) fp) cf own e elt)
    {B : Base} {T : List (Addr × D)} {O : Addr → Prop} {η : Env} {σ : L2.St} {H : Hp} {Q : VK} (R : Rep X.K own B T O η σ H)
    (s : Sat (ev cf (.dcomp a e t src c) η) (PostF X own B T O σ H Q) (XOk G X B σ)) : tDc (RI X tg iter) (BkG X scope tg) (BkT X scope ifs) (BkE X scope ka) (BkE X scope elt) (tgSlots t) σ H Q := by
  simp only [ev] at s
  have s := Sat.bind.mp s
  show RI X tg iter σ H _
  refine hsrc B T O η σ H _ R (Sat.mono s (fun r z => ?_) fun _ _ z => z)
  obtain ⟨ds, o, d, η1⟩ := r
  obtain ⟨⟨⟨KS, ZS⟩, ηe⟩, eL, z⟩ := okS z
  obtain ⟨η3, eU, z⟩ := okS z
  have z : PostF X own B T O σ H Q (.dc KS ZS, η3) := z
  intro O1 T' L0 J H1 Gd i1 R1 f1 W g1 lk Dl hD
  have hL := lk.mem
  have R1 : Rep X.K own B T' O1 η1 σ H1 := R1
  have W : WalkD X.K own B L0 J ds Gd := W
  have eL : dcGo t (tgSlots t) (ev cf c) (ev cf a) (ev cf e) ds [] [] η1 = .ok ((KS, ZS), ηe) := eL
  refine dc_it (J := J) (n := ds.length) (Gg := fun H => ∃ O', Gd O' H) (Y := J.yld) ⟨fun i H hi ⟨O', g⟩ => W.goes i O' H hi g, fun H ⟨O', g⟩ => W.stops O' H g, fun i H x H' hi g y => y⟩
    (fun i H2 => ∃ O' ηi ks zs, DcI X own B T' O1 H1 Gd σ (tgSlots t) Dl O' ηi (.dc ks zs) H2 ∧ dcGo t (tgSlots t) (ev cf c) (ev cf a) (ev cf e) (ds.drop i) ks zs ηi = .ok ((KS, ZS), ηe)) ?_ ?_ ?_ ?_
  · have R2 := R1.pushO (Sh.dc (ks := []) (ds := []) (xs := []) rfl) hD (Nat.zero_le _) DaL.nil
    have m : Mv O1 H1 _ _ := Mv.push (o := .dK []) hD
    exact ⟨_, η1, [], [], ⟨R2.wipe _, m, W.stab _ _ _ _ _ _ _ g1 m (fun x hx => List.mem_cons_of_mem _ (hL x hx)) R2, fun a z => z⟩, eL⟩
  · rintro i H2 _ ⟨O', ηi, ks, zs, L, _⟩
    exact ⟨O', L.gd⟩
  · rintro i x H2 H3 hi ⟨O', ηi, ks, zs, L, eg⟩ y
    obtain ⟨d', ed, hs, hd⟩ := W.yields i O' H2 x H3 hi L.gd y L.rep.tr
    have R2 := L.rep.same hs
    have ed' : ds.drop i = d' :: ds.drop (i + 1) := by
      rw [List.drop_eq_getElem_cons hi]
      rw [List.getElem?_eq_getElem hi] at ed
      cases ed; rfl
    rw [ed'] at eg
    simp only [dcGo] at eg
    obtain ⟨ηb, eb, eg⟩ := bindOk eg
    have eb := noerOk eb
    obtain ⟨⟨bd, ηc⟩, ec, eg⟩ := bindOk eg
    obtain ⟨k, ek, eg⟩ := bindOk eg
    have ek := noerOk ek
    have eB := evB_ok ncp ec ek
    have mi : Mv O1 H1 O' H3 := L.mv.trans (Mv.of (Same.fr hs) fun _ z => z)
    have gi : Gd O' H3 := W.stab _ _ _ _ _ _ _ L.gd (Mv.of (Same.fr hs) fun _ z => z) (fun x hx => List.mem_cons_of_mem _ (hL x hx)) R2
    intro s0 H0 C cl fp
    refine bind_ok (X := X.blk s0 H0 scope (compEnvC scope cl C X.env) fp) hc hN t tg d' x (killE ηi (tgSlots t)) ηb (wipe σ (tgSlots t)) _ (htg s0 H0 C cl fp) eb hd R2 fun σ2 R3 hs2 hl2 => ?_
    have hw : wipe σ2 (tgSlots t) = wipe σ (tgSlots t) := (wipe_eq hl2 hs2).trans (wipe_idem σ _)
    refine ⟨hw, ?_⟩
    intro s1 H4 C1 cl1 fp1
    refine (hcd s1 H4 C1 cl1 fp1).2 B _ O' ηb σ2 H3 _ R3 ?_
    rw [eB]
    intro O3 H5 i3 R4 f3
    cases k with
    | false =>
      refine ⟨O3, ηc, ks, zs, DcI.skip W.stab hL mi gi L.sub i3 f3 R4 hw, ?_⟩
      exact eg
    | true =>
      obtain ⟨⟨kd, ηk⟩, eka, eg⟩ := bindOk (show ((ev cf a ηc).bind _) = _ from eg)
      obtain ⟨⟨zd, ηz⟩, ee, eg⟩ := bindOk eg
      obtain ⟨pz, ep, eg⟩ := bindOk eg
      obtain ⟨kk, ks', zs', rfl, lk2, dp, rfl⟩ := putK_dc (noerOk ep)
      intro s2 H6 C2 cl2 fp2
      refine hka s2 H6 C2 cl2 fp2 B _ O3 ηc σ2 H5 _ R4 ?_
      rw [eka]
      intro O4 y4 H7 i4 R5 f4 o4
      intro s3 H8 C3 cl3 fp3
      refine hel s3 H8 C3 cl3 fp3 B _ O4 ηk σ2 H7 _ R5 ?_
      rw [ee]
      intro O5 y5 H9 i5 R6 f5 o5
      have e4 := o4.int_of
      subst e4
      obtain ⟨kvs, h1, h2, L2'⟩ := DcI.put W.stab hL mi gi L.sub (fun a z => i3 a (i4 a (i5 a z))) ((f3.trans i3 f4).trans (fun a z => i3 a (i4 a z)) f5) R6 hw o5 lk2 dp
      exact ⟨kvs, .inl kk, rfl, h1, h2, O5, ηz, ks', zs', L2', eg⟩
  · rintro H2 ⟨O', ηi, ks, zs, L, eg⟩
    rw [List.drop_length] at eg
    simp only [dcGo] at eg
    cases eg
    obtain ⟨O2, xs, i2, k2, n2, R2, hg, hu, hl, hd, hk⟩ := L.rep.unpushD
    have m2 : Mv O1 H1 O2 (gone H2 Dl) := fun a o ea na => by
      have q := L.mv a o ea na
      have ne : a ≠ Dl := ne_of_none ea hD
      exact ⟨by unfold gone; rw [if_neg ne]; exact q.1, fun w => q.2 (i2 a w)⟩
    have R3 := unlock_ok eU lk (rep_back R2 R1 m2 hdj)
    have i3 : ∀ a, O2 a → O a := fun a w => by
      rcases L.sub a (i2 a w) with w1 | w1
      · exact i1 a w1
      · exact absurd (w1 ▸ w) n2
    have f3 : Fr O H (gone H2 Dl) := fun a o ea na => (m2 a o (f1 a o ea na) fun w => na (i1 a w)).1
    have q := z O2 (gone H2 Dl) Dl xs i3 R3 f3 hg hl hk hd
    rwa [hu] at q
theorem dcomp_dc {a e c src : E} {t : Tg} : ∀ η d η', ev cf (.dcomp a e t src c) η = .ok (d, η') → (∃ ds, d = .lst ds) ∨ ∃ ks ds, d = .dc ks ds := by
  intro η d η' h
  simp only [ev] at h
  obtain ⟨_, _, h⟩ := bindOk h
  obtain ⟨_, _, h⟩ := bindOk h
  obtain ⟨_, _, h⟩ := bindOk h
  cases h; exact .inr ⟨_, _, rfl⟩
theorem sf_dcomp {scope : Scope} {ow : List (Str × Nat)} {src a e c : E} {t : Tg} {tg iter ka elt : Expr} {ifs : List Expr} {pos : Pos} (hc : X.calm = true) (hN : X.N.Nodup) (hdj : ∀ i ∈ tgSlots t, i ∉ own) (hsrc : SI G X cf own src tg iter)
    (ok : BlkOk X.N X.env.scope scope ow) (hv : ow.map (·.2) = tgSlots t)
    (htg : ∀ (s : Shared) (H0 : Hp) (C : Addr) (cl : List (Str × Addr)) (fp : List Addr), TgR (X.blk s H0 scope (compEnvC scope cl C X.env) fp) own t tg)
    (hcd : ∀ (s : Shared) (H0 : Hp) (C : Addr) (cl : List (Str × Addr)) (fp : List Addr), SC G (X.blk s H0 scope (compEnvC scope cl C X.env) fp) cf own c ifs) (ncp : ∀ i, c ≠ .p i)
    (hka : ∀ (s : Shared) (H0 : Hp) (C : Addr) (cl : List (Str × Addr)) (fp : List Addr), SE G (X.blk s H0 scope (compEnvC scope cl C X.env) fp) cf own a ka)
    (hel : ∀ (s : Shared) (H0 : Hp) (C : Addr) (cl : List (Str × Addr)) (fp : List Addr), SE G (X.blk s H0 scope (compEnvC scope cl C X.env) fp) cf own e elt) (hf : ∀ es k p, iter ≠ .Set es k p) :
    SF G X cf own (.dcomp a e t src c) (.DictComp ka elt [⟨tg, iter, ifs, 0⟩] scope pos) := by
  intro B T O η σ H Q R s
  refine RE.of (pe_dc hc hN (RI.pi tg iter) ok (g := BkG X scope tg) (tt := BkT X scope ifs) (tk := BkE X scope ka) (tv := BkE X scope elt) (fun s0 H0 C cl fp => ⟨fun pins s σ H v u Q I r h => h s0 H0 C cl fp pins s u I r⟩) (fun s0 H0 C cl fp => ⟨fun pins s σ H Q I h => h s0 H0 C cl fp pins s I⟩)
    (fun s0 H0 C cl fp => ⟨fun pins s σ H Q I h => h s0 H0 C cl fp pins s I⟩) (fun s0 H0 C cl fp => ⟨fun pins s σ H Q I h => h s0 H0 C cl fp pins s I⟩) (foldno hf X.env)) ?_
  rw [hv]
  exact dc_main hc hN hdj hsrc htg hcd ncp hka hel R s
end
end Py
set_option Elab.async false
set_option linter.all false
set_option maxRecDepth 100000
set_option maxHeartbeats 1000000
namespace Py
open PySem PySem.Spec PyProof.Rows L2
/-- what is owned but for some places -/
def Oc (σ : L2.St) (O : Addr → Prop) (ps : List Nat) : Addr → Prop := fun a => O a ∧ ∀ i ∈ ps, σ[i]? ≠ some (some (.ref a))
section
variable {K : PySem.W.Frag} {own : List Nat} {B : Base} {T : List (Addr × D)} {O O' : Addr → Prop} {η : Env} {σ : L2.St} {H H' : Hp}
theorem killE_some {ps : List Nat} {j : Nat} {d : D} (h : (killE η ps)[j]? = some (some d)) : j ∉ ps ∧ η[j]? = some (some d) := by
  rw [killE_get] at h
  by_cases c : j ∈ ps ∧ j < η.length
  · rw [if_pos c] at h; cases h
  · rw [if_neg c] at h
    exact ⟨fun z => c ⟨z, (List.getElem?_eq_some_iff.mp h).1⟩, h⟩
theorem Rep.drops (R : Rep K own B T O η σ H) {ps : List Nat} (hp : ∀ i ∈ ps, i ∈ own ∧ i ≠ 0 ∧ ∃ d, η[i]? = some (some d)) : Rep K own B T (Oc σ O ps) (killE η ps) σ H := by
  have f : ∀ a o, H a = some o → ¬ O a → H a = some o ∧ ¬ Oc σ O ps a := fun a o e n => ⟨e, fun z => n z.1⟩
  refine ⟨by rw [killE_length]; exact R.len, fun j d e n => ?_, fun j d e n => ?_, fun q d e => ?_, fun j k d d' q hj hk e1 e2 => R.ap j k d d' q hj hk (killE_some e1).2 (killE_some e2).2, fun j d q d' hj e => R.apt j d q d' hj (killE_some e).2, fun j d q hj hk e => R.nb j d q hj hk (killE_some e).2, R.nbT, R.ndt, fun a z => ⟨R.base a z, fun i hi e => ?_⟩, fun a z => R.tr a z.1, R.fr⟩
  · obtain ⟨_, e⟩ := killE_some e
    obtain ⟨v, h1, h2⟩ := R.sh j d e n
    exact ⟨v, h1, Da.to f d v h2⟩
  · obtain ⟨nj, e⟩ := killE_some e
    obtain ⟨p, h1, h2, h3, h4⟩ := R.ow j d e n
    refine ⟨p, h1, ⟨h2, fun i hi z => ?_⟩, h3, Ob.to f rfl h4⟩
    obtain ⟨g1, g2, d', g3⟩ := hp i hi
    exact nj ((R.ap j i d d' p n g1 e g3 h1 z) ▸ hi)
  · obtain ⟨h2, h3, h4⟩ := R.tm q d e
    refine ⟨⟨h2, fun i hi z => ?_⟩, h3, Ob.to f rfl h4⟩
    obtain ⟨g1, g2, d', g3⟩ := hp i hi
    exact R.apt i d' q d g1 g3 z e
  · obtain ⟨g1, g2, d', g3⟩ := hp i hi
    exact R.nb i d' a g1 (fun y => g2 (B.hP i y)) g3 e z
/-- an own list is changed by another -/
theorem Rep.rew (R : Rep K own B T O η σ H) {i : Nat} {p : Addr} {d d2 : D} (e : η[i]? = some (some d)) (hi : i ∈ own) (hp : σ[i]? = some (some (.ref p))) (hs : ∀ a o, H a = some o → a ≠ p → H' a = some o) (ho : Ob K H' O p d2) :
    Rep K own B T O (η.set i (some d2)) σ H' ∧ Fr O H H' := by
  obtain ⟨p', h1, h2, h3, h4⟩ := R.ow i d e hi
  obtain rfl : p' = p := by rw [h1] at hp; cases hp; rfl
  have fr : Fr O H H' := fun a o ea na => hs a o ea fun z => na (by rw [z]; exact h2)
  have f : ∀ a o, H a = some o → ¬ O a → H' a = some o ∧ ¬ O a := fun a o ea na => ⟨fr a o ea na, na⟩
  have ob : ∀ q d, q ≠ p' → Ob K H O q d → Ob K H' O q d := fun q d ne z => by
    obtain ⟨o, xs, ds, e, hx, hl, hd⟩ := z
    exact ⟨o, xs, ds, e, hs _ _ hx ne, hl, DaL.to f ds xs hd⟩
  have lt : i < η.length := (List.getElem?_eq_some_iff.mp e).1
  have back : ∀ j d', j ≠ i → (η.set i (some d2))[j]? = some (some d') → η[j]? = some (some d') := fun j d' ne q => by
    rw [List.getElem?_set_ne (Ne.symm ne)] at q; exact q
  have old : ∀ j d', (η.set i (some d2))[j]? = some (some d') → ∃ d'', η[j]? = some (some d'') := fun j d' q => by
    by_cases ne : j = i
    · exact ⟨d, ne ▸ e⟩
    · exact ⟨d', back j d' ne q⟩
  refine ⟨⟨by rw [List.length_set]; exact R.len, fun j d' e' n => ?_, fun j d' e' n => ?_, fun q d' e' => ?_, fun j k d' d'' q hj hk e1 e2 => ?_, fun j d' q d'' hj e1 => ?_, fun j d' q hj hk e1 => let ⟨x, e2⟩ := old j d' e1; R.nb j x q hj hk e2, R.nbT, R.ndt, R.base, fun a z => ?_, fun a o ea na => ?_⟩, fr⟩
  · have ne : j ≠ i := fun z => n (z ▸ hi)
    obtain ⟨v, z1, z2⟩ := R.sh j d' (back j d' ne e') n
    exact ⟨v, z1, Da.to f d' v z2⟩
  · by_cases ne : j = i
    · subst ne
      rw [List.getElem?_set_self lt] at e'
      cases e'
      exact ⟨p', h1, h2, h3, ho⟩
    · obtain ⟨q, z1, z2, z3, z4⟩ := R.ow j d' (back j d' ne e') n
      exact ⟨q, z1, z2, z3, ob q d' (fun y => ne (R.ap j i d' d p' n hi (back j d' ne e') e (y ▸ z1) h1)) z4⟩
  · obtain ⟨z2, z3, z4⟩ := R.tm q d' e'
    exact ⟨z2, z3, ob q d' (fun y => R.apt i d p' d' hi e h1 (y ▸ e')) z4⟩
  · obtain ⟨x, e1⟩ := old j d' e1
    obtain ⟨y, e2⟩ := old k d'' e2
    exact R.ap j k x y q hj hk e1 e2
  · obtain ⟨x, e1⟩ := old j d' e1
    exact R.apt j x q d'' hj e1
  · by_cases y : a = p'
    · obtain ⟨_, xs, ds, _, hx, _⟩ := ho
      exact ⟨_, by rw [y]; exact hx⟩
    · obtain ⟨o, e1⟩ := R.tr a z
      exact ⟨o, hs a o e1 y⟩
  · have e1 := R.fr a o ea na
    by_cases y : a = p'
    · rcases h3 with h3 | h3
      · rw [y, h3] at ea; cases ea
      · exact absurd (y ▸ h3) na
    · exact hs a o e1 y
theorem Oc.sub {ps : List Nat} : ∀ a, Oc σ O ps a → O a := fun _ z => z.1
/-- arguments: the places as data -/
theorem args_da (R : Rep K own B T O η σ H) : ∀ {os : List Opd} {vs : List V} {ds : List D}, rds os η = .ok ds → OpVs K H O σ os vs → (∀ i, .inr i ∈ os → i ∈ own) → ∀ ps : List Nat, (∀ i ∈ places os, i ∈ ps) → DaL K H (Oc σ O ps) ds vs
  | [], vs, ds, h, q, _, _, _ => by
    have q : vs = [] := q
    subst q; cases h; exact DaL.nil
  | x :: os, vs, ds, h, q, n, ps, hp => by
    obtain ⟨u, us, rfl, h1, h2⟩ := q
    have h : (rd x η).bind (fun d => (rds os η).bind fun ds => .ok (d :: ds)) = Py.R.ok ds := h
    obtain ⟨d, e1, h⟩ := bindOk h
    obtain ⟨ds', e2, h⟩ := bindOk h
    cases h
    have f : ∀ a o, H a = some o → ¬ O a → H a = some o ∧ ¬ Oc σ O ps a := fun a o e n => ⟨e, fun z => n z.1⟩
    refine DaL.cons ?_ (args_da R e2 h2 (fun i hi => n i (List.mem_cons_of_mem _ hi)) ps (fun i hi => hp i (by cases x with
      | inl d => exact hi
      | inr j => exact List.mem_cons_of_mem _ hi)))
    cases x with
    | inl d' => cases e1; exact Da.to f _ _ h1
    | inr i =>
      have e1 := rdr_ok e1
      obtain ⟨p, g1, g2, g3, g4⟩ := R.ow i d e1 (n i (List.mem_cons_self ..))
      have h1 : σ[i]? = some (some u) := h1
      rw [g1] at h1
      cases h1
      exact (Ob.to f rfl g4).da fun z => z.2 i (hp i (List.mem_cons_self ..)) g1
theorem rds_places : ∀ {os : List Opd} {ds : List D}, rds os η = .ok ds → ∀ i ∈ places os, ∃ d, η[i]? = some (some d)
  | [], _, _, i, hi => nomatch hi
  | .inl d' :: os, ds, h, i, hi => by
    have h : (Py.R.ok d').bind (fun d => (rds os η).bind fun ds => .ok (d :: ds)) = Py.R.ok ds := h
    obtain ⟨d, e1, h⟩ := bindOk h
    obtain ⟨ds', e2, h⟩ := bindOk h
    exact rds_places e2 i hi
  | .inr j :: os, ds, h, i, hi => by
    have h : (rd (.inr j) η).bind (fun d => (rds os η).bind fun ds => .ok (d :: ds)) = Py.R.ok ds := h
    obtain ⟨d, e1, h⟩ := bindOk h
    obtain ⟨ds', e2, h⟩ := bindOk h
    rcases List.mem_cons.mp hi with z | z
    · exact ⟨d, z ▸ rdr_ok e1⟩
    · exact rds_places e2 i z
theorem places_mem : ∀ {os : List Opd} {i : Nat}, i ∈ places os → .inr i ∈ os
  | .inl d :: os, i, h => List.mem_cons_of_mem _ (places_mem (os := os) h)
  | .inr j :: os, i, h => by
    rcases List.mem_cons.mp h with z | z
    · subst z; exact List.mem_cons_self ..
    · exact List.mem_cons_of_mem _ (places_mem z)
end
/-! ### what a def promises -/
/-- a list that the call made -/
def Frs (K : PySem.W.Frag) (H H' : Hp) (O : Addr → Prop) (d : D) (v : V) : Prop := ∃ p o xs ds, v = .ref p ∧ Sh d ds o xs ∧ H p = none ∧ H' p = some o ∧ xs.length ≤ LIM ∧ DaL K H' (fun a => O a ∨ a = p) ds xs
def Same1 (p : Addr) (H H' : Hp) : Prop := ∀ a o, H a = some o → a ≠ p → H' a = some o
def SpN (G : Exi) (K : PySem.W.Frag) (cf : CF) (fr : Bool) (f : Nat) (np : Nat) : Sp := fun vs H Q E => ∃ (ds : List D) (O : Addr → Prop), vs.length = np ∧ (∀ a, O a → ∃ o, H a = some o) ∧ DaL K H O ds vs ∧
  Sat (cf f ds) (fun r => ∀ v H', L2.Same H H' → Da K H' O r.1 v → (fr = true → Frs K H H' O r.1 v) → Q v H') (fun c p => ∀ cls dd H', L2.Same H H' → XRel G K O c p cls dd H' → E cls dd H')
def SpM (G : Exi) (K : PySem.W.Frag) (cf : CF) (f : Nat) (np : Nat) : Sp := fun vs H Q E => ∃ (d0 : D) (ds : List D) (p : Addr) (vs' : List V) (O : Addr → Prop), vs.length = np ∧ vs = .ref p :: vs' ∧ O p ∧ (∀ a, O a → ∃ o, H a = some o) ∧ Ob K H O p d0 ∧ DaL K H O ds vs' ∧
  Sat (cf f (d0 :: ds)) (fun r => ∀ v H', Same1 p H H' → Da K H' O r.1 v → Ob K H' O p r.2 → Q v H') (fun c q => ∀ cls dd H', Same1 p H H' → XRel G K O c q cls dd H' → E cls dd H')
section
variable {G : Exi} {X : Cx} {cf : CF} {own : List Nat}
theorem XRel.sub {K : PySem.W.Frag} {O O' : Addr → Prop} {c : Nat} {p : Option D} {cls : Value} {d : Option Addr} {H : Hp} (h : XRel G K O c p cls d H) (s : ∀ a, O' a → O a) : XRel G K O' c p cls d H := by
  obtain ⟨h1, h2⟩ := h
  refine ⟨h1, ?_⟩
  cases p with
  | none => exact h2
  | some x =>
    obtain ⟨dd, v, e1, e2, e3⟩ := h2
    exact ⟨dd, v, e1, e2, e3.fr Fr.refl s⟩
theorem opd_inr {q : E} {r : Env → R (D × Env)} {η η' : Env} {i : Nat} (h : opd q r η = .ok (.inr i, η')) : q = .p i := by
  by_cases n : ∃ j, q = .p j
  · obtain ⟨j, rfl⟩ := n
    unfold opd at h
    split at h
    · rename_i k e
      cases e
      split at h
      · cases h; rfl
      · cases h
    · rename_i n; exact absurd rfl (n j)
  · rw [opd_np fun j z => n ⟨j, z⟩] at h
    obtain ⟨_, _, h⟩ := bindOk h
    cases h
theorem evs_inr : ∀ {as : List E} {η η' : Env} {os : List Opd}, evs cf as η = .ok (os, η') → ∀ i, .inr i ∈ os → .p i ∈ as
  | [], η, η', os, h, i, hi => by simp only [evs] at h; cases h; nomatch hi
  | a :: as, η, η', os, h, i, hi => by
    simp only [evs] at h
    obtain ⟨⟨x, η1⟩, e1, h⟩ := bindOk h
    obtain ⟨⟨os', η2⟩, e2, h⟩ := bindOk h
    cases h
    rcases List.mem_cons.mp hi with z | z
    · have z : x = .inr i := z.symm
      subst z
      rw [opd_inr e1]; exact List.mem_cons_self ..
    · exact List.mem_cons_of_mem _ (evs_inr e2 i z)
/-- no exception is let out -/
abbrev NoX : L2.St → XK := fun _ _ _ _ => False
theorem pass_no (σ : L2.St) : PassesAt (L2.CX X.prog X.w) X σ (NoX σ) := fun pins H s e s' I c => by
  obtain ⟨_, _, _, _, _, _, _, _, _, _, _, _, h⟩ := c
  exact h.elim
theorem pe_call0S {CX : CXT} {k : Nat} {f : Addr} {fd : FuncData} {ps : List Str} {sp : Sp} {E : L2.St → XK} {x : Str} {p pos : Pos} (F : FnOk X.prog X.w X.K X.mg X.base CX k f fd ps sp) (hr : Room k X.A) (hg : Gl X x) (hm : X.mg x = some (.ref f)) (hk : PySem.W.keepIn X.K (.ref f) = true) (hb : Binds X.K fd ps [])
    (hx : ∀ σ, PassesAt CX X σ (E σ)) (hdb : (x == ("__debug__" : Str)) = false) : PE X (.Call (.Name x p) [] [] pos) (tCallS sp E tNil) := by
  refine ⟨fun pins s σ H Q I h => ?_⟩
  refine wpAny_Call_Name_kw (ld_glob I hg hm ?_ hdb)
  exact PySem.W.callWith_K0 I.kIn hk (run_fnS (us := []) F hr hb (hx σ) I .nil h)
theorem sat_noer {α β : Type} {r : R α} {g : α → β} {Q : β → Prop} {E E' : Nat → Option D → Prop} (h : Sat ((noer r).bind fun a => Py.R.ok (g a)) Q E) : Sat ((noer r).bind fun a => Py.R.ok (g a)) Q E' := by
  cases r <;> exact h
/-- a call, whatever it lets out -/
theorem re_call {k : Nat} {f : Addr} {fd : FuncData} {ps : List Str} {sp : Sp} {x : Str} {p pos : Pos} {e : Expr} {es : List Expr} (F : FnOk X.prog X.w X.K X.mg X.base (L2.CX X.prog X.w) k f fd ps sp) (hr : Room k X.A) (hg : Gl X x) (hm : X.mg x = some (.ref f)) (hk : PySem.W.keepIn X.K (.ref f) = true) (hb : Binds X.K fd ps [])
    (hdb : (x == ("__debug__" : Str)) = false) (hs : ∀ z ∈ e :: es, isStar z = false) (E : L2.St → XK) (hx : ∀ σ, PassesAt (L2.CX X.prog X.w) X σ (E σ)) {σ : L2.St} {H : Hp} {Q : VK} (h : RA X (e :: es) σ H fun vs H1 => sp vs H1 Q (E σ)) : RE X (.Call (.Name x p) (e :: es) [] pos) σ H Q :=
  RE.of (pe_callS F hr hg hm hk hb hx (RA.pa _) hdb (ns_of (hs e (List.mem_cons_self ..)) _ _) (back_ns (fun z hz => hs z (List.mem_cons_of_mem _ hz)) _ _)) h
/-- a call's end: nothing of the caller's is changed -/
theorem after_n {B : Base} {T : List (Addr × D)} {O O1 : Addr → Prop} {σ : L2.St} {H H1 : Hp} {Q : VK} {f np : Nat} {fr : Bool} {os : List Opd} {η1 : Env} {ds : List D} {vs : List V} (i1 : ∀ a, O1 a → O a) (R1 : Rep X.K own B T O1 η1 σ H1) (f1 : Fr O H H1) (o1 : OpVs X.K H1 O1 σ os vs) (n1 : ∀ i, .inr i ∈ os → i ∈ own) (h0 : ∀ i, .inr i ∈ os → i ≠ 0)
    (hr : rds os η1 = .ok ds) (hl : vs.length = np) {Ex : L2.St → XK} (s : Sat ((cf f ds).bind fun x => (noer (after false os x.1 x.2 η1)).bind fun η2 => .ok (x.1, η2)) (Post X own B T O σ H Q) (fun c p => ∀ cls d H', XRel G X.K B.O c p cls d H' → (∀ a o, B.H a = some o → ¬ B.M a → H' a = some o) → Ex σ cls d H')) :
    SpN G X.K cf fr f np vs H1 Q (Ex σ) := by
  have hp : ∀ i ∈ places os, i ∈ own ∧ i ≠ 0 ∧ ∃ d, η1[i]? = some (some d) := fun i hi => ⟨n1 i (places_mem hi), h0 i (places_mem hi), rds_places hr i hi⟩
  have R2 := R1.drops hp
  refine ⟨ds, Oc σ O1 (places os), hl, fun a z => R1.tr a z.1, args_da R1 hr o1 n1 (places os) fun i hi => hi, ?_⟩
  have s := Sat.bind.mp s
  refine Sat.mono s (fun r z => ?_) fun c p z => ?_
  · intro v H' sm dv _
    have z : Post X own B T O σ H Q (r.1, dropP r.1 (places os) η1) := z
    unfold dropP at z
    cases c : flat r.1 with
    | true =>
      rw [c] at z
      exact z O1 v H' i1 (R1.same sm) (f1.trans i1 (Same.fr sm)) (Da.flat c dv _ _)
    | false =>
      rw [c] at z
      exact z (Oc σ O1 (places os)) v H' (fun a y => i1 a y.1) (R2.same sm) (f1.trans i1 (Same.fr sm)) dv
  · intro cls dd H' sm xr
    exact z cls dd H' (xr.sub R2.base) fun a o e m => sm a o (R1.fr a o e m)
theorem se_call {f np k : Nat} {fr : Bool} {as : List E} {e : Expr} {es : List Expr} {x : Str} {p pos : Pos} {fa : Addr} {fd : FuncData} {ps : List Str} (F : FnOk X.prog X.w X.K X.mg X.base (L2.CX X.prog X.w) k fa fd ps (SpN G X.K cf fr f np)) (hr : Room k X.A) (hg : Gl X x) (hm : X.mg x = some (.ref fa)) (hk : PySem.W.keepIn X.K (.ref fa) = true) (hb : Binds X.K fd ps [])
    (hdb : (x == ("__debug__" : Str)) = false) (hs : ∀ z ∈ e :: es, isStar z = false) (ha : SOs G X cf own as (e :: es)) (hl : as.length = np) (h0 : ∀ i, .p i ∈ as → i ≠ 0) : SE G X cf own (.call f false as) (.Call (.Name x p) (e :: es) [] pos) := by
  intro B T O η σ H Q R s
  simp only [ev] at s
  have key : ∀ (Ex : L2.St → XK), (∀ σ, PassesAt (L2.CX X.prog X.w) X σ (Ex σ)) → Sat (evs cf as η) (PostOs X own B T O σ H (fun vs H1 => SpN G X.K cf fr f np vs H1 Q (Ex σ))) (XOk G X B σ) → RE X (.Call (.Name x p) (e :: es) [] pos) σ H Q :=
    fun Ex hx h => re_call F hr hg hm hk hb hdb hs Ex hx (ha B T O η σ H _ R h)
  cases h1 : evs cf as η with
  | er c q => rw [h1] at s; exact key NoX pass_no (by rw [h1]; exact s)
  | st => rw [h1] at s; exact s.elim
  | ok a =>
    obtain ⟨os, η1⟩ := a
    rw [h1] at s
    obtain ⟨ds, h2, s⟩ := okS (show Sat ((noer (rds os η1)).bind _) _ _ from s)
    have ev_in := evs_inr h1
    have lo : os.length = np := (evs_length h1).trans hl
    cases h3 : cf f ds with
    | st => rw [h3] at s; exact s.elim
    | ok r =>
      refine key NoX pass_no ?_
      rw [h1]
      intro O1 vs H1 i1 R1 f1 o1 n1
      refine after_n i1 R1 f1 o1 n1 (fun i hi => h0 i (ev_in i hi)) h2 (o1.length.trans lo) (Ex := NoX) ?_
      rw [h3] at s ⊢
      exact sat_noer (r := after false os r.1 r.2 η1) s
    | er c q =>
      rw [h3] at s
      obtain ⟨W, tk, hW⟩ := (show XOk G X B σ c q from s)
      refine key (WE W) (passAt tk) ?_
      rw [h1]
      intro O1 vs H1 i1 R1 f1 o1 n1
      refine after_n i1 R1 f1 o1 n1 (fun i hi => h0 i (ev_in i hi)) h2 (o1.length.trans lo) (Ex := WE W) ?_
      rw [h3]
      exact hW
theorem se_call0 {f k : Nat} {fr : Bool} {x : Str} {p pos : Pos} {fa : Addr} {fd : FuncData} {ps : List Str} (F : FnOk X.prog X.w X.K X.mg X.base (L2.CX X.prog X.w) k fa fd ps (SpN G X.K cf fr f 0)) (hr : Room k X.A) (hg : Gl X x) (hm : X.mg x = some (.ref fa)) (hk : PySem.W.keepIn X.K (.ref fa) = true) (hb : Binds X.K fd ps [])
    (hdb : (x == ("__debug__" : Str)) = false) : SE G X cf own (.call f false []) (.Call (.Name x p) [] [] pos) := by
  intro B T O η σ H Q R s
  simp only [ev, evs] at s
  have s : Sat ((cf f []).bind fun x => (noer (after false [] x.1 x.2 η)).bind fun η2 => .ok (x.1, η2)) (Post X own B T O σ H Q) (XOk G X B σ) := s
  have fin : ∀ (Ex : L2.St → XK), Sat ((cf f []).bind fun x => (noer (after false [] x.1 x.2 η)).bind fun η2 => .ok (x.1, η2)) (Post X own B T O σ H Q) (fun c p => ∀ cls d H', XRel G X.K B.O c p cls d H' → (∀ a o, B.H a = some o → ¬ B.M a → H' a = some o) → Ex σ cls d H') → SpN G X.K cf fr f 0 [] H Q (Ex σ) :=
    fun Ex h => after_n (os := []) (fun _ z => z) R Fr.refl rfl (fun i z => nomatch z) (fun i z => nomatch z) rfl rfl (Ex := Ex) h
  cases h3 : cf f [] with
  | st => rw [h3] at s; exact s.elim
  | ok r =>
    refine RE.of (pe_call0S F hr hg hm hk hb pass_no hdb) (fin NoX ?_)
    rw [h3] at s ⊢
    exact sat_noer (r := after false [] r.1 r.2 η) s
  | er c q =>
    rw [h3] at s
    obtain ⟨W, tk, hW⟩ := (show XOk G X B σ c q from s)
    refine RE.of (pe_call0S F hr hg hm hk hb (passAt tk) hdb) (fin (WE W) ?_)
    rw [h3]
    exact hW
/-- a call's end: the first argument's own list may be changed -/
theorem after_m {B : Base} {T : List (Addr × D)} {O O1 : Addr → Prop} {σ : L2.St} {H H1 : Hp} {Q : VK} {f np : Nat} {i0 : Nat} {os : List Opd} {η1 : Env} {ds : List D} {vs : List V} (i1 : ∀ a, O1 a → O a) (R1 : Rep X.K own B T O1 η1 σ H1) (f1 : Fr O H H1) (o1 : OpVs X.K H1 O1 σ (.inr i0 :: os) vs) (n1 : ∀ i, .inr i ∈ (.inr i0 :: os : List Opd) → i ∈ own) (h0 : ∀ i, .inr i ∈ os → i ≠ 0)
    (hr : rds (.inr i0 :: os) η1 = .ok ds) (hl : vs.length = np) {Ex : L2.St → XK} (s : Sat ((cf f ds).bind fun x => (noer (after true (.inr i0 :: os) x.1 x.2 η1)).bind fun η2 => .ok (x.1, η2)) (Post X own B T O σ H Q) (fun c p => ∀ cls d H', XRel G X.K B.O c p cls d H' → (∀ a o, B.H a = some o → ¬ B.M a → H' a = some o) → Ex σ cls d H')) (ni : i0 ∉ places os) :
    SpM G X.K cf f np vs H1 Q (Ex σ) := by
  have h : (rd (.inr i0) η1).bind (fun d => (rds os η1).bind fun ds => .ok (d :: ds)) = Py.R.ok ds := hr
  obtain ⟨d0, e1, h⟩ := bindOk h
  obtain ⟨ds', e2, h⟩ := bindOk h
  cases h
  have e1 := rdr_ok e1
  obtain ⟨u, us, rfl, o2, o3⟩ := o1
  have hp : ∀ i ∈ places os, i ∈ own ∧ i ≠ 0 ∧ ∃ d, η1[i]? = some (some d) := fun i hi => ⟨n1 i (List.mem_cons_of_mem _ (places_mem hi)), h0 i (places_mem hi), rds_places e2 i hi⟩
  have R2 := R1.drops hp
  have hi0 := n1 i0 (List.mem_cons_self ..)
  have e3 : (killE η1 (places os))[i0]? = some (some d0) := by rw [killE_get, if_neg (fun z => ni z.1)]; exact e1
  obtain ⟨p, g1, g2, g3, g4⟩ := R2.ow i0 d0 e3 hi0
  have o2 : σ[i0]? = some (some u) := o2
  rw [g1] at o2
  cases o2
  refine ⟨d0, ds', p, us, Oc σ O1 (places os), hl, rfl, g2, fun a z => R1.tr a z.1, g4, args_da R1 e2 o3 (fun i hi => n1 i (List.mem_cons_of_mem _ hi)) (places os) fun i hi => hi, ?_⟩
  have s := Sat.bind.mp s
  refine Sat.mono s (fun r z => ?_) fun c q z => ?_
  · intro v H' sm dv ov
    have z : Sat ((noer (if i0 ∈ places os then .st else .ok ((killE η1 (places os)).set i0 (some r.2)))).bind fun η2 => Py.R.ok (r.1, η2)) (Post X own B T O σ H Q) _ := z
    rw [if_neg ni] at z
    have z : Post X own B T O σ H Q (r.1, (killE η1 (places os)).set i0 (some r.2)) := z
    obtain ⟨R3, f3⟩ := R2.rew e3 hi0 g1 sm ov
    exact z (Oc σ O1 (places os)) v H' (fun a y => i1 a y.1) R3 (fun a o e n => f3 a o (f1 a o e n) fun w => n (i1 a w.1)) dv
  · intro cls dd H' sm xr
    refine z cls dd H' (xr.sub R2.base) fun a o e m => ?_
    have e4 := R1.fr a o e m
    refine sm a o e4 fun w => ?_
    rcases g3 with g3 | g3
    · rw [w, g3] at e; cases e
    · exact m (w ▸ g3)
theorem se_callM {f np k : Nat} {as : List E} {i0 : Nat} {e : Expr} {es : List Expr} {x : Str} {p pos : Pos} {fa : Addr} {fd : FuncData} {ps : List Str} (F : FnOk X.prog X.w X.K X.mg X.base (L2.CX X.prog X.w) k fa fd ps (SpM G X.K cf f np)) (hr : Room k X.A) (hg : Gl X x) (hm : X.mg x = some (.ref fa)) (hk : PySem.W.keepIn X.K (.ref fa) = true) (hb : Binds X.K fd ps [])
    (hdb : (x == ("__debug__" : Str)) = false) (hs : ∀ z ∈ e :: es, isStar z = false) (ha : SOs G X cf own (.p i0 :: as) (e :: es)) (hl : as.length + 1 = np) (hni : .p i0 ∉ as) (h0 : ∀ i, .p i ∈ as → i ≠ 0) : SE G X cf own (.call f true (.p i0 :: as)) (.Call (.Name x p) (e :: es) [] pos) := by
  intro B T O η σ H Q R s
  simp only [ev] at s
  have key : ∀ (Ex : L2.St → XK), (∀ σ, PassesAt (L2.CX X.prog X.w) X σ (Ex σ)) → Sat (evs cf (.p i0 :: as) η) (PostOs X own B T O σ H (fun vs H1 => SpM G X.K cf f np vs H1 Q (Ex σ))) (XOk G X B σ) → RE X (.Call (.Name x p) (e :: es) [] pos) σ H Q :=
    fun Ex hx h => re_call F hr hg hm hk hb hdb hs Ex hx (ha B T O η σ H _ R h)
  cases h1 : evs cf (.p i0 :: as) η with
  | er c q => rw [h1] at s; exact key NoX pass_no (by rw [h1]; exact s)
  | st => rw [h1] at s; exact s.elim
  | ok a =>
    obtain ⟨os0, η1⟩ := a
    rw [h1] at s
    have h1' := h1
    simp only [evs] at h1'
    obtain ⟨⟨x0, η0⟩, g1, h1'⟩ := bindOk h1'
    obtain ⟨⟨os, η2⟩, g2, h1'⟩ := bindOk h1'
    cases h1'
    have g1' : ∃ i, x0 = .inr i := by
      unfold opd at g1
      split at g1
      · split at g1
        · cases g1; exact ⟨_, rfl⟩
        · cases g1
      · rename_i n; exact absurd rfl (n i0)
    obtain ⟨i, rfl⟩ := g1'
    obtain ⟨ds, h2, s⟩ := okS (show Sat ((noer (rds (.inr i :: os) η2)).bind _) _ _ from s)
    have lo : (Sum.inr i :: os : List Opd).length = np := by rw [evs_length h1]; exact hl
    have ni : i ∉ places os := fun z => by
      have e5 := opd_inr g1
      cases e5
      exact hni (evs_inr g2 _ (places_mem z))
    cases h3 : cf f ds with
    | st => rw [h3] at s; exact s.elim
    | ok r =>
      refine key NoX pass_no ?_
      rw [h1]
      intro O1 vs H1 i1 R1 f1 o1 n1
      refine after_m i1 R1 f1 o1 n1 (fun i hi => h0 i (evs_inr g2 i hi)) h2 (o1.length.trans lo) (Ex := NoX) ?_ ni
      rw [h3] at s ⊢
      exact sat_noer (r := after true (.inr i :: os) r.1 r.2 η2) s
    | er c q =>
      rw [h3] at s
      obtain ⟨W, tk, hW⟩ := (show XOk G X B σ c q from s)
      refine key (WE W) (passAt tk) ?_
      rw [h1]
      intro O1 vs H1 i1 R1 f1 o1 n1
      refine after_m i1 R1 f1 o1 n1 (fun i hi => h0 i (evs_inr g2 i hi)) h2 (o1.length.trans lo) (Ex := WE W) ?_ ni
      rw [h3]
      exact hW
end
end Py
set_option Elab.async false
set_option linter.all false
set_option maxRecDepth 100000
set_option maxHeartbeats 1000000
namespace Py
open PySem PySem.Spec PyProof.Rows L2
/-- the slots that are left as they are -/
def Kp (as : List Nat) (σ σ' : L2.St) : Prop := σ'.length = σ.length ∧ ∀ j, j ∉ as → σ'[j]? = σ[j]?
theorem Kp.refl {as : List Nat} {σ : L2.St} : Kp as σ σ := ⟨rfl, fun _ _ => rfl⟩
theorem Kp.trans {as bs cs : List Nat} {σ σ1 σ2 : L2.St} (h : Kp as σ σ1) (g : Kp bs σ1 σ2) (ha : ∀ i ∈ as, i ∈ cs) (hb : ∀ i ∈ bs, i ∈ cs) : Kp cs σ σ2 :=
  ⟨g.1.trans h.1, fun j n => (g.2 j fun z => n (hb j z)).trans (h.2 j fun z => n (ha j z))⟩
theorem Kp.set {i : Nat} {σ : L2.St} {v : Option V} : Kp [i] σ (σ.set i v) := ⟨by rw [List.length_set], fun j n => by rw [List.getElem?_set_ne]; intro z; exact n (by simp [z])⟩
/-- a list that was made in the def -/
def FrR (K : PySem.W.Frag) (B : Base) (H' : Hp) (O' : Addr → Prop) (d : D) (v : V) : Prop := ∃ p o xs ds, v = .ref p ∧ Sh d ds o xs ∧ B.Nw p ∧ H' p = some o ∧ xs.length ≤ LIM ∧ DaL K H' (fun a => O' a ∨ a = p) ds xs
section
variable (G : Exi) (X : Cx) (cf : CF) (own : List Nat) (fr tt : Bool)
def PostS (B : Base) (T : List (Addr × D)) (O : Addr → Prop) (σ : L2.St) (H : Hp) (as : List Nat) (W : Ends) : Fl → Prop
  | .nx η' => ∀ (O' : Addr → Prop) (σ' : L2.St) (H' : Hp), Mv O H O' H' → Kp as σ σ' → Rep X.K own B T O' η' σ' H' → W.nx σ' H'
  | .bk η' => ∀ (O' : Addr → Prop) (σ' : L2.St) (H' : Hp), Mv O H O' H' → Kp as σ σ' → Rep X.K own B T O' η' σ' H' → W.bk σ' H'
  | .ct η' => ∀ (O' : Addr → Prop) (σ' : L2.St) (H' : Hp), Mv O H O' H' → Kp as σ σ' → Rep X.K own B T O' η' σ' H' → W.ct σ' H'
  | .rt d η' => ∀ (O' : Addr → Prop) (v : V) (σ' : L2.St) (H' : Hp), Mv O H O' H' → Kp as σ σ' → Rep X.K own B T O' η' σ' H' → Da X.K H' O' d v → (fr = true → FrR X.K B H' O' d v) → W.rt v H'
def XS (B : Base) (σ : L2.St) (as : List Nat) (c : Nat) (p : Option D) : Prop := ∀ σ', Kp as σ σ' → XOk G X B σ' c p
def SS (q : S) (st : Stmt) : Prop := ∀ (B : Base) (T : List (Addr × D)) (O : Addr → Prop) (η : Env) (σ : L2.St) (H : Hp) (W : Ends), (tt = false → T = [] ∧ ∀ a, ¬ B.M a) → Rep X.K own B T O η σ H →
  Sat (ex cf own q η) (PostS X own fr B T O σ H (asgS q) W) (XS G X B σ (asgS q)) → RS X st W σ H
def SSs (qs : List S) (sts : List Stmt) : Prop := ∀ (B : Base) (T : List (Addr × D)) (O : Addr → Prop) (η : Env) (σ : L2.St) (H : Hp) (W : Ends), (tt = false → T = [] ∧ ∀ a, ¬ B.M a) → Rep X.K own B T O η σ H →
  Sat (exs cf own qs η) (PostS X own fr B T O σ H (asgSs qs) W) (XS G X B σ (asgSs qs)) → RSs X sts W σ H
end
section
variable {G : Exi} {X : Cx} {cf : CF} {own : List Nat} {fr tt : Bool}
theorem PostS.step {B : Base} {T : List (Addr × D)} {O O' : Addr → Prop} {σ σ' : L2.St} {H H' : Hp} {as bs cs : List Nat} {W : Ends} {f : Fl} (h : PostS X own fr B T O σ H as W f) (m : Mv O H O' H') (k : Kp bs σ σ') (hb : ∀ i ∈ bs, i ∈ as) (hc : ∀ i ∈ cs, i ∈ as) : PostS X own fr B T O' σ' H' cs W f := by
  cases f with
  | nx η => exact fun O2 σ2 H2 m2 k2 R => h O2 σ2 H2 (m.trans m2) (k.trans k2 hb hc) R
  | bk η => exact fun O2 σ2 H2 m2 k2 R => h O2 σ2 H2 (m.trans m2) (k.trans k2 hb hc) R
  | ct η => exact fun O2 σ2 H2 m2 k2 R => h O2 σ2 H2 (m.trans m2) (k.trans k2 hb hc) R
  | rt d η => exact fun O2 v σ2 H2 m2 k2 R => h O2 v σ2 H2 (m.trans m2) (k.trans k2 hb hc) R
theorem XS.step {B : Base} {σ σ' : L2.St} {as bs cs : List Nat} {c : Nat} {p : Option D} (h : XS G X B σ as c p) (k : Kp bs σ σ') (hb : ∀ i ∈ bs, i ∈ as) (hc : ∀ i ∈ cs, i ∈ as) : XS G X B σ' cs c p := fun σ2 k2 => h σ2 (k.trans k2 hb hc)
theorem XS.here {B : Base} {σ : L2.St} {as : List Nat} {c : Nat} {p : Option D} (h : XS G X B σ as c p) : XOk G X B σ c p := h σ Kp.refl
theorem sss_nil : SSs G X cf own fr tt [] [] := by
  intro B T O η σ H W ht R s
  simp only [exs] at s
  exact RSs.of pss_nil (s O σ H Mv.refl Kp.refl R)
theorem sss_cons {q : S} {qs : List S} {st : Stmt} {sts : List Stmt} (h : SS G X cf own fr tt q st) (hs : SSs G X cf own fr tt qs sts) : SSs G X cf own fr tt (q :: qs) (st :: sts) := by
  intro B T O η σ H W ht R s
  simp only [exs] at s
  refine RSs.of (pss_cons (RS.ps st) (RSs.pss sts)) ?_
  have i1 : ∀ i ∈ asgS q, i ∈ asgSs (q :: qs) := fun i hi => by simp only [asgSs]; exact List.mem_append_left _ hi
  have i2 : ∀ i ∈ asgSs qs, i ∈ asgSs (q :: qs) := fun i hi => by simp only [asgSs]; exact List.mem_append_right _ hi
  refine h B T O η σ H _ ht R (Sat.mono (Sat.bind.mp s) (fun f z => ?_) fun c p z => z.step Kp.refl (bs := []) (fun i hi => nomatch hi) i1)
  cases f with
  | nx η1 =>
    intro O1 σ1 H1 m1 k1 R1
    have z : Sat (exs cf own qs η1) (PostS X own fr B T O σ H (asgSs (q :: qs)) W) (XS G X B σ (asgSs (q :: qs))) := z
    exact hs B T O1 η1 σ1 H1 W ht R1 (Sat.mono z (fun f y => y.step m1 k1 i1 i2) fun c p y => y.step k1 i1 i2)
  | bk η1 =>
    have z : PostS X own fr B T O σ H (asgSs (q :: qs)) W (.bk η1) := z
    exact fun O1 σ1 H1 m1 k1 R1 => z O1 σ1 H1 m1 (k1.trans Kp.refl (bs := []) i1 (fun i hi => nomatch hi)) R1
  | ct η1 =>
    have z : PostS X own fr B T O σ H (asgSs (q :: qs)) W (.ct η1) := z
    exact fun O1 σ1 H1 m1 k1 R1 => z O1 σ1 H1 m1 (k1.trans Kp.refl (bs := []) i1 (fun i hi => nomatch hi)) R1
  | rt d η1 =>
    have z : PostS X own fr B T O σ H (asgSs (q :: qs)) W (.rt d η1) := z
    exact fun O1 v σ1 H1 m1 k1 R1 => z O1 v σ1 H1 m1 (k1.trans Kp.refl (bs := []) i1 (fun i hi => nomatch hi)) R1
/-- an expression within a statement -/
theorem inS {q : E} {e : Expr} (h : SE G X cf own q e) {B : Base} {T : List (Addr × D)} {O : Addr → Prop} {η : Env} {σ : L2.St} {H : Hp} {as : List Nat} {F : D × Env → R Fl} {QF : Fl → Prop} {Q : VK} (R : Rep X.K own B T O η σ H)
    (s : Sat ((ev cf q η).bind F) QF (XS G X B σ as))
    (k : ∀ (x : D) (η1 : Env) (O1 : Addr → Prop) (v : V) (H1 : Hp), Sat (F (x, η1)) QF (XS G X B σ as) → (∀ a, O1 a → O a) → Rep X.K own B T O1 η1 σ H1 → Fr O H H1 → Da X.K H1 O1 x v → Q v H1) : RE X e σ H Q :=
  h B T O η σ H Q R (Sat.mono (Sat.bind.mp s) (fun r z O1 v H1 s1 R1 f1 o1 => k r.1 r.2 O1 v H1 z s1 R1 f1 o1) fun _ _ z => z.here)
theorem inSF {q : E} {e : Expr} (h : SF G X cf own q e) (hl : ∀ η d η', ev cf q η = .ok (d, η') → ∃ ds, d = .lst ds) {B : Base} {T : List (Addr × D)} {O : Addr → Prop} {η : Env} {σ : L2.St} {H : Hp} {as : List Nat} {F : D × Env → R Fl} {QF : Fl → Prop} {Q : VK} (R : Rep X.K own B T O η σ H)
    (s : Sat ((ev cf q η).bind F) QF (XS G X B σ as))
    (k : ∀ (ds : List D) (η1 : Env) (O1 : Addr → Prop) (H1 : Hp) (p : Addr) (xs : List V), Sat (F (.lst ds, η1)) QF (XS G X B σ as) → (∀ a, O1 a → O a) → Rep X.K own B T O1 η1 σ H1 → Fr O H H1 → H1 p = none → xs.length ≤ LIM → DaL X.K H1 O1 ds xs → Q (.ref p) (upd H1 p (.lst xs))) : RE X e σ H Q := by
  refine h B T O η σ H Q R ?_
  have s := Sat.bind.mp s
  cases r : ev cf q η with
  | er c p => rw [r] at s; exact XS.here s
  | st => rw [r] at s; exact s
  | ok a =>
    obtain ⟨d, η1⟩ := a
    obtain ⟨ds, rfl⟩ := hl η d η1 r
    rw [r] at s
    exact fun O1 H1 p xs i1 R1 f1 hp l hd => k ds η1 O1 H1 p xs s i1 R1 f1 hp l hd
theorem ss_set {i : Nat} {x : Str} {q : E} {e : Expr} {p' pos : Pos} (hN : X.N.Nodup) (hi : X.N[i]? = some x) (hx : Loc X.env.scope x) (hf : X.fn x = true ∨ X.env.scope.names.lookup x = some .local) (ho : i ∉ own) (hs : swapsWith e (some (.Name x p')) pos.line X.env = pure false) (h : SE G X cf own q e) :
    SS G X cf own fr tt (.set i q) (.Assign [.Name x p'] e pos) := by
  intro B T O η σ H W ht R s
  simp only [ex] at s
  refine RS.of (ps_set hN hi hx (RE.pe e) hs hf) ?_
  refine inS h R s fun d η1 O1 v H1 s1 i1 R1 f1 o1 => ?_
  have s1 : PostS X own fr B T O σ H [i] W (.nx (η1.set i (some d))) := s1
  exact s1 O1 _ H1 (Mv.of f1 i1) Kp.set (R1.put ho o1)
theorem set_own {B : Base} {T : List (Addr × D)} {O1 : Addr → Prop} {η1 : Env} {σ : L2.St} {H1 : Hp} {p : Addr} {xs : List V} {ds : List D} {i : Nat} (R1 : Rep X.K own B T O1 η1 σ H1) (hp : H1 p = none) (l : xs.length ≤ LIM) (hd : DaL X.K H1 O1 ds xs) (ho : i ∈ own) :
    Rep X.K own B T (fun a => O1 a ∨ a = p) (η1.set i (some (.lst ds))) (σ.set i (some (.ref p))) (upd H1 p (.lst xs)) :=
  (R1.push hp l hd).take ho (fun j n => by rw [List.getElem?_set_ne (Ne.symm n)]) (by rw [List.length_set]) fun lt => by rw [List.getElem?_set_self lt]
theorem set_ownO {B : Base} {T : List (Addr × D)} {O1 : Addr → Prop} {η1 : Env} {σ : L2.St} {H1 : Hp} {p : Addr} {d1 : D} {o1 : HO} {xs : List V} {ds : List D} {i : Nat} (R1 : Rep X.K own B T O1 η1 σ H1) (hsh : Sh d1 ds o1 xs) (hp : H1 p = none) (l : xs.length ≤ LIM) (hd : DaL X.K H1 O1 ds xs) (ho : i ∈ own) :
    Rep X.K own B T (fun a => O1 a ∨ a = p) (η1.set i (some d1)) (σ.set i (some (.ref p))) (upd H1 p o1) :=
  (R1.pushO hsh hp l hd).take ho (fun j n => by rw [List.getElem?_set_ne (Ne.symm n)]) (by rw [List.length_set]) fun lt => by rw [List.getElem?_set_self lt]
theorem ss_own {i : Nat} {x : Str} {q : E} {e : Expr} {p' pos : Pos} (hN : X.N.Nodup) (hi : X.N[i]? = some x) (hx : Loc X.env.scope x) (hf : X.fn x = true ∨ X.env.scope.names.lookup x = some .local) (ho : i ∈ own) (hs : swapsWith e (some (.Name x p')) pos.line X.env = pure false)
    (h : SF G X cf own q e) : SS G X cf own fr tt (.own i q) (.Assign [.Name x p'] e pos) := by
  intro B T O η σ H W ht R s
  simp only [ex] at s
  refine RS.of (ps_set hN hi hx (RE.pe e) hs hf) ?_
  refine h B T O η σ H _ R ?_
  have s := Sat.bind.mp s
  cases r : ev cf q η with
  | er c p => rw [r] at s; exact XS.here s
  | st => rw [r] at s; exact s
  | ok a =>
    obtain ⟨d, η1⟩ := a
    rw [r] at s
    cases d with
    | lst ds =>
      have s : PostS X own fr B T O σ H [i] W (.nx (η1.set i (some (.lst ds)))) := s
      exact fun O1 H1 p xs i1 R1 f1 hp l hd => s _ _ _ ((Mv.of f1 i1).trans (Mv.push hp)) Kp.set (set_own R1 hp l hd ho)
    | dc ks ds =>
      have s : PostS X own fr B T O σ H [i] W (.nx (η1.set i (some (.dc ks ds)))) := s
      exact fun O1 H1 p xs i1 R1 f1 hp l hk hd => s _ _ _ ((Mv.of f1 i1).trans (Mv.push hp)) Kp.set (set_ownO R1 (Sh.dc hk) hp l hd ho)
    | _ => exact s.elim
/-- x = [..] where the comprehension stores by itself -/
theorem ss_setLc {i : Nat} {x : Str} {p' pos spos : Pos} {scope : Scope} {ow : List (Str × Nat)} {src e c : E} {t : Tg} {tg iter elt : Expr} {ifs : List Expr} (hN : X.N.Nodup) (hi : X.N[i]? = some x) (hxl : X.env.scope.names.lookup x = some .local) (hs : swapsWith (.ListComp elt [⟨tg, iter, ifs, 0⟩] scope pos) (some (.Name x p')) spos.line X.env = pure true)
    (hc : X.calm = true) (hdj : ∀ i ∈ tgSlots t, i ∉ own) (hsrc : SI G X cf own src tg iter) (ok : BlkOk X.N X.env.scope scope ow) (hv : ow.map (·.2) = tgSlots t)
    (htg : ∀ (s : Shared) (H0 : Hp) (C : Addr) (cl : List (Str × Addr)) (fp : List Addr), TgR (X.blk s H0 scope (compEnvC scope cl C X.env) fp) own t tg)
    (hcd : ∀ (s : Shared) (H0 : Hp) (C : Addr) (cl : List (Str × Addr)) (fp : List Addr), SC G (X.blk s H0 scope (compEnvC scope cl C X.env) fp) cf own c ifs) (ncp : ∀ i, c ≠ .p i)
    (hel : ∀ (s : Shared) (H0 : Hp) (C : Addr) (cl : List (Str × Addr)) (fp : List Addr), SE G (X.blk s H0 scope (compEnvC scope cl C X.env) fp) cf own e elt) (hf : ∀ es k p, iter ≠ .Set es k p) (o : Bool) (ho : if o = true then i ∈ own else i ∉ own) :
    SS G X cf own fr tt (if o = true then .own i (.lc e t src c) else .set i (.lc e t src c)) (.Assign [.Name x p'] (.ListComp elt [⟨tg, iter, ifs, 0⟩] scope pos) spos) := by
  intro B T O η σ H W ht R s
  refine RS.of (ps_setLc hc hN hi hxl hs (RI.pi tg iter) ok (g := BkG X scope tg) (tt := BkT X scope ifs) (te := BkE X scope elt) (fun s0 H0 C cl fp => ⟨fun pins s σ H v u Q I r h => h s0 H0 C cl fp pins s u I r⟩) (fun s0 H0 C cl fp => ⟨fun pins s σ H Q I h => h s0 H0 C cl fp pins s I⟩)
    (fun s0 H0 C cl fp => ⟨fun pins s σ H Q I h => h s0 H0 C cl fp pins s I⟩) (foldno hf X.env)) ?_
  show tLc _ _ _ _ _ σ H fun v H1 => W.nx (σ.set i (some v)) H1
  rw [hv]
  have s2 : Sat ((ev cf (.lc e t src c) η).bind fun x => if o = true then (noer (asLst x.1)).bind fun z => .ok (.nx (x.2.set i (some z))) else .ok (.nx (x.2.set i (some x.1)))) (PostS X own fr B T O σ H [i] W) (XS G X B σ [i]) := by
    cases o with
    | true =>
      have s : Sat (ex cf own (.own i (.lc e t src c)) η) (PostS X own fr B T O σ H [i] W) (XS G X B σ [i]) := s
      simp only [ex] at s
      exact s
    | false =>
      have s : Sat (ex cf own (.set i (.lc e t src c)) η) (PostS X own fr B T O σ H [i] W) (XS G X B σ [i]) := s
      simp only [ex] at s
      exact s
  refine lc_main hc hN hdj hsrc htg hcd ncp hel R ?_
  have s2 := Sat.bind.mp s2
  cases r : ev cf (.lc e t src c) η with
  | er c' p => rw [r] at s2; exact XS.here s2
  | st => rw [r] at s2; exact s2
  | ok a =>
    obtain ⟨d, η1⟩ := a
    obtain ⟨ds, rfl⟩ := lc_lst η d η1 r
    rw [r] at s2
    have s2 : PostS X own fr B T O σ H [i] W (.nx (η1.set i (some (.lst ds)))) := by
      cases o <;> exact s2
    intro O1 H1 p xs i1 R1 f1 hp l hd
    cases o with
    | true => exact s2 _ _ _ ((Mv.of f1 i1).trans (Mv.push hp)) Kp.set (set_own R1 hp l hd ho)
    | false => exact s2 O1 _ _ ((Mv.of f1 i1).trans (Mv.of (Fr.new hp) fun _ z => z)) Kp.set ((R1.same (Same.new hp)).put ho (R1.newL hp l hd))
theorem ss_ex {q : E} {e : Expr} {pos : Pos} (hs : swapsWith e none pos.line X.env = pure false) (h : SE G X cf own q e) : SS G X cf own fr tt (.ex q) (.Expr e pos) := by
  intro B T O η σ H W ht R s
  simp only [ex] at s
  refine RS.of (ps_expr (RE.pe e) hs) ?_
  refine inS h R s fun d η1 O1 v H1 s1 i1 R1 f1 o1 => ?_
  have s1 : PostS X own fr B T O σ H _ W (.nx η1) := s1
  exact s1 O1 σ H1 (Mv.of f1 i1) Kp.refl R1
theorem ss_ret {q : E} {e : Expr} {pos : Pos} (h : SE G X cf own q e) : SS G X cf own false tt (.ret q) (.Return (some e) pos) := by
  intro B T O η σ H W ht R s
  simp only [ex] at s
  refine RS.of (ps_ret (RE.pe e)) ?_
  refine inS h R s fun d η1 O1 v H1 s1 i1 R1 f1 o1 => ?_
  have s1 : PostS X own false B T O σ H _ W (.rt d η1) := s1
  exact s1 O1 v σ H1 (Mv.of f1 i1) Kp.refl R1 o1 fun z => nomatch z
/-- a list made anew is returned -/
theorem ss_retF {q : E} {e : Expr} {pos : Pos} (h : SF G X cf own q e) (hl : ∀ η d η', ev cf q η = .ok (d, η') → ∃ ds, d = .lst ds) : SS G X cf own fr tt (.ret q) (.Return (some e) pos) := by
  intro B T O η σ H W ht R s
  simp only [ex] at s
  refine RS.of (ps_ret (RE.pe e)) ?_
  refine inSF h hl R s fun ds η1 O1 H1 p xs s1 i1 R1 f1 hp l hd => ?_
  have s1 : PostS X own fr B T O σ H _ W (.rt (.lst ds) η1) := s1
  refine s1 O1 _ σ _ ((Mv.of f1 i1).trans (Mv.of (Fr.new hp) fun _ z => z)) Kp.refl (R1.same (Same.new hp)) (R1.newL hp l hd) fun _ => ⟨p, _, xs, ds, rfl, Sh.lst, R1.nw hp, upd_same, l, ?_⟩
  exact DaL.to (Mv.push hp) ds xs hd
/-- an own list is returned -/
theorem ss_retM {i : Nat} {x : Str} {p pos : Pos} (hN : X.N[i]? = some x) (hv : Vis X.env.scope x) (hd : (x == ("__debug__" : Str)) = false) (hcd : (x == ("__classdict__" : Str)) = false) (hi : i ∈ own) (h0 : i ≠ 0) : SS G X cf own fr tt (.ret (.mv i)) (.Return (some (.Name x p)) pos) := by
  intro B T O η σ H W ht R s
  simp only [ex, ev] at s
  cases e : η[i]? with
  | none => simp only [e] at s; exact s.elim
  | some o =>
    cases o with
    | none => simp only [e] at s; exact s.elim
    | some d =>
      simp only [e] at s
      have s : PostS X own fr B T O σ H _ W (.rt d (η.set i none)) := s
      obtain ⟨q, z1, z2, z3, o1, xs, ds, hsh, z4, z5, z6⟩ := R.ow i d e hi
      obtain ⟨p', O', h1, h2, h3, h4, h5⟩ := R.move e hi (fun z => h0 (B.hP i z))
      obtain rfl : q = p' := by rw [z1] at h1; cases h1; rfl
      refine RS.of (ps_ret (pe_var hN hv hd hcd)) ⟨_, z1, ?_⟩
      refine s O' _ σ H (Mv.of Fr.refl h2) Kp.refl h4 (h5.da h3) fun _ => ⟨q, o1, xs, ds, rfl, hsh, z3, z4, z5, ?_⟩
      refine DaL.to (fun a o e n => ⟨e, fun w => ?_⟩) ds xs z6
      rcases w with w | w
      · exact n (h2 a w)
      · exact n (w ▸ z2)
theorem ss_ret0 {pos : Pos} : SS G X cf own false tt .ret0 (.Return none pos) := by
  intro B T O η σ H W ht R s
  simp only [ex] at s
  exact RS.of ps_retN (s O .non σ H Mv.refl Kp.refl R Da.non fun z => nomatch z)
theorem ss_pass {pos : Pos} : SS G X cf own fr tt .pass (.Pass pos) := by
  intro B T O η σ H W ht R s
  simp only [ex] at s
  exact RS.of ps_pass (s O σ H Mv.refl Kp.refl R)
theorem ss_brk {pos : Pos} : SS G X cf own fr tt .brk (.Break pos) := by
  intro B T O η σ H W ht R s
  simp only [ex] at s
  exact RS.of ps_break (s O σ H Mv.refl Kp.refl R)
theorem ss_cont {pos : Pos} : SS G X cf own fr tt .cont (.Continue pos) := by
  intro B T O η σ H W ht R s
  simp only [ex] at s
  exact RS.of ps_continue (s O σ H Mv.refl Kp.refl R)
/-- a docstring stands for nothing -/
theorem evT_B {c : E} {η : Env} {F : Bool × Env → R Fl} : ((evT cf c η).bind fun x => (noer (truth x.1)).bind fun k => F (k, x.2)) = (evB cf c η).bind F := by
  unfold evT evB
  cases opd c (ev cf c) η with
  | er c p => rfl
  | st => rfl
  | ok y =>
    obtain ⟨x, η1⟩ := y
    show ((noer (rd x η1)).bind _).bind _ = ((noer (rd x η1)).bind _).bind _
    cases rd x η1 with
    | er c p => rfl
    | st => rfl
    | ok d =>
      show (noer (truth d)).bind _ = ((noer (truth d)).bind _).bind _
      cases truth d <;> rfl
theorem inSB {q : E} {e : Expr} (h : ST G X cf own q e) {B : Base} {T : List (Addr × D)} {O : Addr → Prop} {η : Env} {σ : L2.St} {H : Hp} {as : List Nat} {F : Bool × Env → R Fl} {QF : Fl → Prop} {Q : Bool → Hp → Prop} (R : Rep X.K own B T O η σ H)
    (s : Sat ((evB cf q η).bind F) QF (XS G X B σ as))
    (k : ∀ (x : Bool) (η1 : Env) (O1 : Addr → Prop) (H1 : Hp), Sat (F (x, η1)) QF (XS G X B σ as) → (∀ a, O1 a → O a) → Rep X.K own B T O1 η1 σ H1 → Fr O H H1 → Q x H1) : RT X e σ H Q :=
  h B T O η σ H Q R (Sat.mono (Sat.bind.mp s) (fun r z O1 H1 s1 R1 f1 => k r.1 r.2 O1 H1 z s1 R1 f1) fun _ _ z => z.here)
theorem ss_if {c : E} {a b : List S} {ec : Expr} {sa sb : List Stmt} {pos : Pos} (hc : ST G X cf own c ec) (ha : SSs G X cf own fr tt a sa) (hb : SSs G X cf own fr tt b sb) : SS G X cf own fr tt (.if_ c a b) (.If ec sa sb pos) := by
  intro B T O η σ H W ht R s
  have e : ex cf own (.if_ c a b) η = (evB cf c η).bind fun x => if x.1 = true then exs cf own a x.2 else exs cf own b x.2 := by
    rw [← evT_B]
    simp only [ex]
  rw [e] at s
  have ia : ∀ i ∈ asgSs a, i ∈ asgS (.if_ c a b) := fun i hi => by simp only [asgS]; exact List.mem_append_left _ hi
  have ib : ∀ i ∈ asgSs b, i ∈ asgS (.if_ c a b) := fun i hi => by simp only [asgS]; exact List.mem_append_right _ hi
  refine RS.of (ps_if (RT.pt ec) (RSs.pss sa) (RSs.pss sb)) ?_
  refine inSB hc R s fun k η1 O1 H1 s1 i1 R1 f1 => ?_
  cases k with
  | true => exact ha B T O1 η1 σ H1 W ht R1 (Sat.mono s1 (fun f z => z.step (Mv.of f1 i1) Kp.refl (bs := []) (fun i hi => nomatch hi) ia) fun c p z => z.step Kp.refl (bs := []) (fun i hi => nomatch hi) ia)
  | false => exact hb B T O1 η1 σ H1 W ht R1 (Sat.mono s1 (fun f z => z.step (Mv.of f1 i1) Kp.refl (bs := []) (fun i hi => nomatch hi) ib) fun c p z => z.step Kp.refl (bs := []) (fun i hi => nomatch hi) ib)
end
end Py
set_option Elab.async false
set_option linter.all false
set_option maxRecDepth 100000
set_option maxHeartbeats 1000000
namespace Py
open PySem PySem.Spec PyProof.Rows L2
section
variable {G : Exi} {X : Cx} {cf : CF} {own : List Nat} {fr tt : Bool}
theorem app_ok {l d z : D} (h : appK l d = .ok z) : ∃ xs, l = .lst xs ∧ xs.length < LIM ∧ z = .lst (xs ++ [d]) := by
  unfold appK at h
  split at h
  · split at h
    · rename_i c; cases h; exact ⟨_, rfl, c, rfl⟩
    · cases h
  · cases h
theorem ext_ok {l d z : D} (h : extK l d = .ok z) : ∃ xs ys, l = .lst xs ∧ d = .lst ys ∧ xs.length + ys.length ≤ LIM ∧ z = .lst (xs ++ ys) := by
  unfold extK at h
  split at h
  · split at h
    · rename_i c; cases h; exact ⟨_, _, rfl, rfl, c, rfl⟩
    · cases h
  · cases h
theorem put_ok {l j d z : D} (h : putK l j d = .ok z) : (∃ xs k n, l = .lst xs ∧ j = .int k ∧ ixN xs.length k = some n ∧ z = .lst (xs.set n d)) ∨ ∃ ks ds k, l = .dc ks ds ∧ j = .int k ∧ ks.length < LIM ∧ z = dcPut ks ds k d := by
  unfold putK at h
  split at h
  · split at h
    · rename_i n e; cases h; exact .inl ⟨_, _, n, rfl, rfl, e, rfl⟩
    · cases h
  · split at h
    · rename_i c; cases h; exact .inr ⟨_, _, _, rfl, rfl, c, rfl⟩
    · cases h
  · cases h
theorem Rep.own_at {K : PySem.W.Frag} {B : Base} {T : List (Addr × D)} {O : Addr → Prop} {η : Env} {σ : L2.St} {H : Hp} (R : Rep K own B T O η σ H) {i : Nat} {ds : List D} (e : η[i]? = some (some (.lst ds))) (hi : i ∈ own) {q : Addr} (hq : σ[i]? = some (some (.ref q))) : O q ∧ ∃ xs, H q = some (.lst xs) ∧ xs.length ≤ LIM ∧ DaL K H O ds xs := by
  obtain ⟨q', h1', h2, _, hob⟩ := R.ow i _ e hi
  obtain ⟨xs, g4, g5, g6⟩ := hob.lstE
  obtain rfl : q' = q := by rw [hq] at h1'; cases h1'; rfl
  exact ⟨h2, xs, g4, g5, g6⟩
theorem del_ok {l j z : D} (h : delK l j = .ok z) : ∃ ks ds k0, l = .dc ks ds ∧ j = .int k0 ∧ (dcGet ks ds k0).isSome = true ∧ z = .dc (dcDrop ks ds k0).1 (dcDrop ks ds k0).2 := by
  unfold delK at h
  split at h
  · split at h
    · rename_i c; cases h; exact ⟨_, _, _, rfl, rfl, c, rfl⟩
    · cases h
  · cases h
theorem Rep.own_dc {K : PySem.W.Frag} {B : Base} {T : List (Addr × D)} {O : Addr → Prop} {η : Env} {σ : L2.St} {H : Hp} (R : Rep K own B T O η σ H) {i : Nat} {ks : List Int} {ds : List D} (e : η[i]? = some (some (.dc ks ds))) (hi : i ∈ own) {q : Addr} (hq : σ[i]? = some (some (.ref q))) : ∃ xs, H q = some (.dK (kvz ks xs)) ∧ ks.length = ds.length ∧ xs.length ≤ LIM ∧ DaL K H O ds xs := by
  obtain ⟨q', h1', h2, _, hob⟩ := R.ow i _ e hi
  obtain ⟨xs, g4, hk, g5, g6⟩ := hob.dcE
  obtain rfl : q' = q := by rw [hq] at h1'; cases h1'; rfl
  exact ⟨xs, g4, hk, g5, g6⟩
def rSetX : V → V → V → Hp → (Hp → Prop) → Prop := fun o i v H Q => rSetL o i v H Q ∨ ∃ (a : Addr) (k : Int) (H' : Hp), o = .ref a ∧ i = .int k ∧ DPut H a (.int k) v H' ∧ Q H'
theorem set_any (hu : X.A.units + 1 < cLine) : PSet X rSetX := by
  intro pins s σ H o i v ov iv u Q I ro ri rv h
  rcases h with h | ⟨a, k, H', rfl, rfl, g, q⟩
  · exact set_list pins s σ H o i v ov iv u Q I ro ri rv h
  · cases (show ov = Value.ref a from ro)
    exact d_setItem hu I g ri rv fun s' I' => ⟨H', I', q⟩
/-- an expression that is neither a comprehension nor the like -/
def isComp : Expr → Bool
  | .ListComp .. => true
  | .SetComp .. => true
  | .DictComp .. => true
  | _ => false
theorem sw_no {e : Expr} (h : isComp e = false) (t : Option Expr) (l : Nat) (env : PySem.Env) : swapsWith e t l env = pure false := by
  cases e <;> first | rfl | cases h
theorem ss_app {i : Nat} {q : E} {e : Expr} {x : Str} {p pos cpos apos : Pos} (hN : X.N[i]? = some x) (hv : Vis X.env.scope x) (hd : (x == ("__debug__" : Str)) = false) (hcd : (x == ("__classdict__" : Str)) = false) (hi : i ∈ own) (hl : (apos.endLine == cpos.line) = true) (hs : isStar e = false)
    (h : SE G X cf own q e) : SS G X cf own fr tt (.app i q) (.Expr (.Call (.Attribute (.Name x p) "append" apos) [e] [] cpos) pos) := by
  intro B T O η σ H W ht R s
  simp only [ex] at s
  obtain ⟨d0, e0, s⟩ := okS s
  obtain ⟨e0, ds0, rfl⟩ := lstD_ok e0
  have e0 := rdr_ok e0
  obtain ⟨q0, h1, h2, h3, hob⟩ := R.ow i _ e0 hi
  obtain ⟨xs0, h4, h5, h6⟩ := hob.lstE
  refine RS.of (ps_expr (pe_bm PySem.F.plainAttrs_list PySem.F.slot_list_append PySem.F.type_list_append (mt_append (X := X)) (pe_var hN hv hd hcd) (pa_cons (RE.pe e) pa_nil (ns_of hs _ _)) rfl (by rw [ns_of hs]; rfl) hl (ns_of hs _ _) rfl) (sw_no rfl _ _ _)) ?_
  refine ⟨_, h1, .inl ⟨rfl, xs0, SqL.of h4⟩, ?_⟩
  show RE X e σ H fun v H1 => rAppend (.ref q0) [v] H1 fun _ H2 => W.nx σ H2
  refine inS h R s fun d η1 O1 v H1 s1 i1 R1 f1 o1 => ?_
  obtain ⟨l, e1, s1⟩ := okS s1
  have e1 := rdr_ok e1
  obtain ⟨z, e2, s1⟩ := okS s1
  obtain ⟨ds, rfl, c, rfl⟩ := app_ok e2
  obtain ⟨g1, xs, g4, g5, g6⟩ := R1.own_at e1 hi h1
  have len := g6.length
  obtain ⟨R2, f2⟩ := R1.write e1 hi h1 (xs := xs ++ [v]) (by rw [List.length_append, List.length_singleton]; omega) (g6.append (DaL.cons o1 DaL.nil))
  have s1 : PostS X own fr B T O σ H _ W (.nx (η1.set i (some (.lst (ds ++ [d]))))) := s1
  exact ⟨q0, xs, v, rfl, rfl, g4, by rw [← LIM_line]; omega, s1 O1 σ _ ((Mv.of f1 i1).trans (Mv.of f2 fun _ z => z)) Kp.refl R2⟩
theorem ss_ext {i : Nat} {q : E} {e : Expr} {x : Str} {p pos cpos apos : Pos} (hN : X.N[i]? = some x) (hv : Vis X.env.scope x) (hd : (x == ("__debug__" : Str)) = false) (hcd : (x == ("__classdict__" : Str)) = false) (hi : i ∈ own) (hl : (apos.endLine == cpos.line) = true) (hs : isStar e = false)
    (h : SE G X cf own q e) : SS G X cf own fr tt (.ext i q) (.Expr (.Call (.Attribute (.Name x p) "extend" apos) [e] [] cpos) pos) := by
  intro B T O η σ H W ht R s
  simp only [ex] at s
  obtain ⟨d0, e0, s⟩ := okS s
  obtain ⟨e0, ds0, rfl⟩ := lstD_ok e0
  have e0 := rdr_ok e0
  obtain ⟨q0, h1, h2, h3, hob⟩ := R.ow i _ e0 hi
  obtain ⟨xs0, h4, h5, h6⟩ := hob.lstE
  refine RS.of (ps_expr (pe_bm PySem.F.plainAttrs_list PySem.F.slot_list_extend PySem.F.type_list_extend (mt_extend (X := X)) (pe_var hN hv hd hcd) (pa_cons (RE.pe e) pa_nil (ns_of hs _ _)) rfl (by rw [ns_of hs]; rfl) hl (ns_of hs _ _) rfl) (sw_no rfl _ _ _)) ?_
  refine ⟨_, h1, .inl ⟨rfl, xs0, SqL.of h4⟩, ?_⟩
  show RE X e σ H fun v H1 => rExtend (.ref q0) [v] H1 fun _ H2 => W.nx σ H2
  refine inS h R s fun d η1 O1 v H1 s1 i1 R1 f1 o1 => ?_
  obtain ⟨l, e1, s1⟩ := okS s1
  have e1 := rdr_ok e1
  obtain ⟨z, e2, s1⟩ := okS s1
  obtain ⟨ds, es, rfl, e3, c, rfl⟩ := ext_ok e2
  have e3 : d = .lst es := e3
  subst e3
  obtain ⟨g1, xs, g4, g5, g6⟩ := R1.own_at e1 hi h1
  obtain ⟨a, ys, rfl, k1, k2, k3⟩ := (DT.fr o1).lst
  have len := g6.length
  have len2 := k3.length
  obtain ⟨R2, f2⟩ := R1.write e1 hi h1 (xs := xs ++ ys) (by rw [List.length_append]; omega) (g6.append k3)
  have s1 : PostS X own fr B T O σ H _ W (.nx (η1.set i (some (.lst (ds ++ es))))) := s1
  exact ⟨q0, a, xs, ys, rfl, rfl, g4, k1, by rw [← LIM_line]; omega, s1 O1 σ _ ((Mv.of f1 i1).trans (Mv.of f2 fun _ z => z)) Kp.refl R2⟩
theorem ss_put {i : Nat} {k q : E} {e ek : Expr} {x : Str} {p pos spos : Pos} (hu : X.A.units + 1 < cLine) (hN : X.N[i]? = some x) (hv : Vis X.env.scope x) (hd : (x == ("__debug__" : Str)) = false) (hcd : (x == ("__classdict__" : Str)) = false) (hi : i ∈ own) (hsk : isSlice ek = false) (hs : swapsWithSole [.Subscript (.Name x p) ek spos] e pos.line X.env = pure false) (hw : swappedStores [.Subscript (.Name x p) ek spos] e X.env = pure none)
    (hsub : ∀ v, assign (.Subscript (.Name x p) ek spos) X.env v = (do
      let ov ← holding [v] (eval (.Name x p) X.env)
      let iv ← holding [v, ov] (eval ek X.env)
      standAt spos
      holding [v, ov, iv] (setItem ov iv v)
      release [v, ov, iv] []))
    (h : SE G X cf own q e) (hk : SE G X cf own k ek) : SS G X cf own fr tt (.put i k q) (.Assign [.Subscript (.Name x p) ek spos] e pos) := by
  intro B T O η σ H W ht R s
  simp only [ex] at s
  refine RS.of (ps_asg (RE.pe e) (pg_sub (pe_var hN hv hd hcd) (RE.pe ek) (set_any hu) hsub) hs hw rfl) ?_
  refine inS h R s fun d η1 O1 v H1 s1 i1 R1 f1 o1 => ?_
  obtain ⟨d0, e0, s1⟩ := okS s1
  have e0 := rdr_ok e0
  obtain ⟨q0, h1, h2, h3, hob⟩ := R1.ow i d0 e0 hi
  refine ⟨_, h1, ?_⟩
  show RE X ek σ H1 fun j H2 => rSetX (.ref q0) j v H2 fun H3 => W.nx σ H3
  refine inS hk R1 s1 fun j η2 O2 u H2 s2 i2 R2 f2 o2 => ?_
  obtain ⟨l, e1, s2⟩ := okS s2
  have e1 := rdr_ok e1
  obtain ⟨z, e2, s2⟩ := okS s2
  obtain ⟨ds, k0, n, rfl, e3, e4, rfl⟩ | ⟨ks, ds, k0, rfl, e3, e4, rfl⟩ := put_ok e2
  rotate_left
  · have e3 : j = .int k0 := e3
    subst e3
    have e5 := o2.int_of
    subst e5
    obtain ⟨xs, g4, hk, g5, g6⟩ := R2.own_dc e1 hi h1
    have len := g6.length
    obtain ⟨ks', ds', xs', y1, y2, y3, y4, y5⟩ := kvz_put (j := k0) hk g6 (o1.fr f2 i2)
    rw [y1] at s2
    have len2 := y4.length
    have lm : (kvz ks xs).length < sizeLine := by rw [kvz_len (by omega), ← LIM_line]; omega
    obtain ⟨R3, f3⟩ := R2.writeO e1 hi h1 (Sh.dc y3) (xs := xs') (by omega) y4
    have s2 : PostS X own fr B T O σ H _ W (.nx (η2.set i (some (.dc ks' ds')))) := s2
    have pk := DPut.k (k := .inl k0) (v := v) g4 lm
    rw [y2] at pk
    exact .inr ⟨q0, k0, _, rfl, rfl, pk, s2 O2 σ _ (((Mv.of f1 i1).trans (Mv.of f2 i2)).trans (Mv.of f3 fun _ z => z)) Kp.refl R3⟩
  have e3 : j = .int k0 := e3
  subst e3
  have e5 := o2.int_of
  subst e5
  obtain ⟨g1, xs, g4, g5, g6⟩ := R2.own_at e1 hi h1
  have len := g6.length
  obtain ⟨R3, f3⟩ := R2.write e1 hi h1 (xs := xs.set n v) (by rw [List.length_set]; exact g5) (g6.set n (o1.fr f2 i2))
  have s2 : PostS X own fr B T O σ H _ W (.nx (η2.set i (some (.lst (ds.set n d))))) := s2
  refine .inl ⟨q0, xs, k0, n, rfl, rfl, g4, by rw [len]; exact e4, ?_⟩
  exact s2 O2 σ _ (((Mv.of f1 i1).trans (Mv.of f2 i2)).trans (Mv.of f3 fun _ z => z)) Kp.refl R3
/-- del d[k] -/
theorem ss_del {i : Nat} {k : E} {ek : Expr} {x : Str} {p pos spos : Pos} (hN : X.N[i]? = some x) (hv : Vis X.env.scope x) (hd : (x == ("__debug__" : Str)) = false) (hcd : (x == ("__classdict__" : Str)) = false) (hi : i ∈ own) 
    (hk : SE G X cf own k ek) : SS G X cf own fr tt (.del i k) (.Delete [.Subscript (.Name x p) ek spos] pos) := by
  intro B T O η σ H W ht R s
  simp only [ex] at s
  obtain ⟨d0, e0, s⟩ := okS s
  have e0 := rdr_ok e0
  obtain ⟨q0, h1, h2, h3, hob⟩ := R.ow i d0 e0 hi
  refine RS.of (ps_ddel (pe_var hN hv hd hcd) (RE.pe ek)) ⟨_, h1, ?_⟩
  show RE X ek σ H fun y H2 => ∃ a kvs k, V.ref q0 = .ref a ∧ H2 a = some (.dK kvs) ∧ y = kV k ∧ (valV kvs k).isSome = true ∧ W.nx σ (upd H2 a (.dK (dropK kvs k)))
  refine inS hk R s fun j η2 O2 u H2 s2 i2 R2 f2 o2 => ?_
  obtain ⟨l, e1, s2⟩ := okS s2
  have e1 := rdr_ok e1
  obtain ⟨z, e2, s2⟩ := okS s2
  obtain ⟨ks, ds, k0, rfl, e3, c, rfl⟩ := del_ok e2
  have e3 : j = .int k0 := e3
  subst e3
  have e5 := o2.int_of
  subst e5
  obtain ⟨xs, g4, hk', g5, g6⟩ := R2.own_dc e1 hi h1
  obtain ⟨ys, y1, y2, y3, y4⟩ := kvz_drop (j := k0) hk' g6
  have len2 := y2.length
  obtain ⟨R3, f3⟩ := R2.writeO e1 hi h1 (Sh.dc y4) (xs := ys) (by omega) y2
  have s2 : PostS X own fr B T O σ H _ W (.nx (η2.set i (some (.dc (dcDrop ks ds k0).1 (dcDrop ks ds k0).2)))) := s2
  refine ⟨q0, _, .inl k0, rfl, g4, rfl, by rw [kvz_some g6]; exact c, ?_⟩
  rw [y1]
  exact s2 O2 σ _ ((Mv.of f2 i2).trans (Mv.of f3 fun _ z => z)) Kp.refl R3
/-- x op= e, whole numbers -/
theorem ss_aug {i : Nat} {o : Bop} {q : E} {e : Expr} {x : Str} {p pos : Pos} (hN : X.N.Nodup) (hi : X.N[i]? = some x) (hx : Loc X.env.scope x) (hf : X.fn x = true ∨ X.env.scope.names.lookup x = some .local) (ho : i ∉ own) (hop : ∀ (a b : Int) (z : D) (H : Hp) (Q : VK), arith o a b = .ok z → (∀ k, z = .int k → Q (.int k) H) → ∀ (pins : List (Addr × Obj)) (s : Shared) (σ : L2.St) (v u : Value), Inv X pins σ H s → RelV (.int a) v → RelV (.int b) u → wpAny (model X.prog X.w) X.A (inplaceOp (opOf o) v u) (EP X pins σ Q) X.xe s)
    (h : SE G X cf own q e) : SS G X cf own fr tt (.aug o i q) (.AugAssign (.Name x p) (opOf o) e pos) := by
  intro B T O η σ H W ht R s
  simp only [ex] at s
  obtain ⟨d0, e0, s⟩ := okS s
  have e0 := rdr_ok e0
  obtain ⟨v0, g1, g2⟩ := R.sh i d0 e0 ho
  have ip : PIp X (opOf o) (fun x y H Q => ∃ a b z, x = .int a ∧ y = .int b ∧ arith o a b = .ok z ∧ ∀ k, z = .int k → Q (.int k) H) := by
    intro pins s σ H x y v u Q I r1 r2 h
    obtain ⟨a, b, z, rfl, rfl, hz, q⟩ := h
    exact hop a b z H Q hz q pins s σ v u I r1 r2
  refine RS.of (ps_aug hN hi hx (RE.pe e) ip hf) ⟨v0, g1, ?_⟩
  refine inS h R s fun d η1 O1 v H1 s1 i1 R1 f1 o1 => ?_
  obtain ⟨z, e2, s1⟩ := okS s1
  have e3 : ∃ a b, d0 = .int a ∧ d = .int b ∧ arith o a b = .ok z := by
    revert e2
    show augK o d0 d = _ → _
    cases d0 <;> cases d <;> intro e2 <;> first | exact ⟨_, _, rfl, rfl, e2⟩ | cases e2
  obtain ⟨a, b, rfl, e4, e5⟩ := e3
  have e4 : d = .int b := e4
  subst e4
  have e6 := g2.int_of
  have e7 := o1.int_of
  refine ⟨a, b, z, e6, e7, e5, fun k ek => ?_⟩
  subst ek
  have s1 : PostS X own fr B T O σ H _ W (.nx (η1.set i (some (.int k)))) := s1
  exact s1 O1 _ H1 (Mv.of f1 i1) Kp.set (R1.put ho Da.int)
/-- while -/
theorem ss_while {c : E} {b : List S} {ec : Expr} {sb : List Stmt} {pos : Pos} (hp : PassesOwn (model X.prog X.w) X.A X.env X.xe) (hc : ST G X cf own c ec) (hb : SSs G X cf own fr tt b sb) : SS G X cf own fr tt (.while_ c b) (.While ec sb [] pos) := by
  intro B T O η σ H W ht R s
  simp only [ex] at s
  have ib : ∀ i ∈ asgSs b, i ∈ asgS (.while_ c b) := fun i hi => by simp only [asgS]; exact hi
  refine RS.of (ps_while hp (RT.pt ec) (RSs.pss sb)) ?_
  refine ⟨fun m σ' H' => ∃ O' η', Mv O H O' H' ∧ Kp (asgS (.while_ c b)) σ σ' ∧ Rep X.K own B T O' η' σ' H' ∧ Sat (whileGo (evT cf c) (exs cf own b) m η') (PostS X own fr B T O σ H (asgS (.while_ c b)) W) (XS G X B σ (asgS (.while_ c b))),
    ⟨WF, O, η, Mv.refl, Kp.refl, R, s⟩, ?_⟩
  rintro m σ1 H1 ⟨O1, η1, m1, k1, R1, s1⟩
  cases m with
  | zero => simp only [whileGo] at s1; exact s1.elim
  | succ m =>
    simp only [whileGo] at s1
    have s1 : Sat ((evB cf c η1).bind fun x => if x.1 = true then (exs cf own b x.2).bind fun f => loopK (whileGo (evT cf c) (exs cf own b) m) f else .ok (.nx x.2)) (PostS X own fr B T O σ H (asgS (.while_ c b)) W) (XS G X B σ (asgS (.while_ c b))) := by
      rw [← evT_B]; exact s1
    have s1 := Sat.bind.mp s1
    refine hc B T O1 η1 σ1 H1 _ R1 (Sat.mono s1 (fun r z => ?_) fun c' p z => (z.step k1 (fun _ z => z) (fun _ z => z)).here)
    obtain ⟨k, η2⟩ := r
    intro O2 H2 i2 R2 f2
    have m2 : Mv O H O2 H2 := m1.trans (Mv.of f2 i2)
    cases k with
    | false =>
      have z : PostS X own fr B T O σ H _ W (.nx η2) := z
      exact z O2 σ1 H2 m2 k1 R2
    | true =>
      refine ⟨_, fun σ' H' h => ⟨m, Nat.lt_succ_self m, h⟩, ?_⟩
      have z := Sat.bind.mp z
      refine hb B T O2 η2 σ1 H2 _ ht R2 (Sat.mono z (fun f y => ?_) fun c' p y => y.step k1 (fun _ z => z) ib)
      cases f with
      | nx η3 => exact fun O3 σ3 H3 m3 k3 R3 => ⟨O3, η3, m2.trans m3, k1.trans k3 (fun _ z => z) ib, R3, y⟩
      | ct η3 => exact fun O3 σ3 H3 m3 k3 R3 => ⟨O3, η3, m2.trans m3, k1.trans k3 (fun _ z => z) ib, R3, y⟩
      | bk η3 =>
        have y : PostS X own fr B T O σ H _ W (.nx η3) := y
        exact fun O3 σ3 H3 m3 k3 R3 => y O3 σ3 H3 (m2.trans m3) (k1.trans k3 (fun _ z => z) ib) R3
      | rt d η3 =>
        have y : PostS X own fr B T O σ H _ W (.rt d η3) := y
        exact fun O3 v σ3 H3 m3 k3 R3 => y O3 v σ3 H3 (m2.trans m3) (k1.trans k3 (fun _ z => z) ib) R3
/-- for -/
theorem Rep.unlk {K : PySem.W.Frag} {B : Base} {T T' L : List (Addr × D)} {O : Addr → Prop} {η : Env} {σ σ0 : L2.St} {H : Hp} {o : Opd} {d : D} (R : Rep K own B T' O η σ H) (lk : Lk own σ0 T T' L o d) : ∃ O', (∀ a, O' a → O a) ∧ Rep K own B T O' η σ H := by
  cases o with
  | inl z =>
    obtain ⟨rfl, _⟩ := (show T' = T ∧ L = [] from lk)
    exact ⟨O, fun _ z => z, R⟩
  | inr i =>
    obtain ⟨p, _, _, _, rfl, _⟩ := lk
    obtain ⟨O', h1, _, _, h2, _⟩ := R.popT
    exact ⟨O', h1, h2⟩
theorem Lk.kp {σ σ' : L2.St} {T T' L : List (Addr × D)} {o : Opd} {d : D} {as : List Nat} (lk : Lk own σ T T' L o d) (k : Kp as σ σ') (h : ∀ i, o = .inr i → i ∉ as) : Lk own σ' T T' L o d := by
  cases o with
  | inl z => exact lk
  | inr i =>
    obtain ⟨p, h1, h2, h3, h4, h5⟩ := lk
    exact ⟨p, h1, h2, (k.2 i (h i rfl)).trans h3, h4, h5⟩
theorem evSrc_inr {q : E} {η η' : Env} {ds : List D} {i : Nat} {d : D} (h : evSrc cf q η = .ok (ds, .inr i, d, η')) : q = .p i := by
  by_cases n : ∃ j, q = .p j
  · obtain ⟨j, rfl⟩ := n
    have e : evSrc cf (.p j) η = (opd (.p j) (ev cf (.p j)) η).bind fun x => (noer (rd x.1 x.2)).bind fun d => (noer (items d)).bind fun ds => .ok (ds, x.1, d, lock x.1 x.2) := by simp only [evSrc_rg1, evSrc_rg2, evSrc_zip, evSrc_enum, evSrc_k, evSrc_p]
    rw [e] at h
    obtain ⟨⟨x, η1⟩, e1, h⟩ := bindOk h
    obtain ⟨d1, e2, h⟩ := bindOk h
    obtain ⟨ds1, e3, h⟩ := bindOk h
    cases h
    exact opd_inr e1
  · obtain ⟨z, e⟩ := evSrc_inl (fun j y => n ⟨j, y⟩) h
    cases e
theorem ss_for {src : E} {t : Tg} {b : List S} {tg iter : Expr} {sb : List Stmt} {pos : Pos} {tb : Bool} (hp : PassesOwn (model X.prog X.w) X.A X.env X.xe) (hc : X.calm = true) (hN : X.N.Nodup) (hsrc : SI G X cf own src tg iter) (htg : TgR X own t tg) (hb : SSs G X cf own fr tb b sb)
    (htb : tb = false → tt = false ∧ ∀ i, src ≠ .p i) (hlk : ∀ i, src = .p i → i ∉ asgS (.for_ t src b)) (hf : ∀ es k p, iter ≠ .Set es k p) : SS G X cf own fr tt (.for_ t src b) (.For tg iter sb [] pos) := by
  intro B T O η σ H W ht R s
  simp only [ex] at s
  generalize has : asgS (.for_ t src b) = as at *
  have it : ∀ i ∈ tgSlots t, i ∈ as := fun i hi => by rw [← has]; simp only [asgS]; exact List.mem_append_left _ hi
  have ib : ∀ i ∈ asgSs b, i ∈ as := fun i hi => by rw [← has]; simp only [asgS]; exact List.mem_append_right _ hi
  refine RS.of (ps_for hp hc (RI.pi tg iter) (RG.pg tg) (RSs.pss sb) (foldno hf X.env)) ?_
  have s := Sat.bind.mp s
  show RI X tg iter σ H _
  cases r : evSrc cf src η with
  | er c p => rw [r] at s; exact hsrc B T O η σ H _ R (by rw [r]; exact XS.here s)
  | st => rw [r] at s; exact s.elim
  | ok a =>
    obtain ⟨ds, o, d, η1⟩ := a
    rw [r] at s
    refine hsrc B T O η σ H _ R ?_
    rw [r]
    intro O1 T' L J H1 Gd i1 R1 f1 W1 g1 lk
    have R1 : Rep X.K own B T' O1 η1 σ H1 := R1
    have W1 : WalkD X.K own B L J ds Gd := W1
    have lk : Lk own σ T T' L o d := lk
    have hL := lk.mem
    have hoi : ∀ i, o = .inr i → i ∉ as := fun i e => by subst e; exact hlk i (evSrc_inr r)
    have ht' : tb = false → T' = [] ∧ ∀ a, ¬ B.M a := fun z => by
      obtain ⟨z1, z2⟩ := htb z
      obtain ⟨y, rfl⟩ := evSrc_inl z2 r
      obtain ⟨rfl, _⟩ := (show T' = T ∧ L = [] from lk)
      exact ht z1
    have s : Sat ((forGo t (exs cf own b) ds η1).bind fun f => endK o d f) (PostS X own fr B T O σ H as W) (XS G X B σ as) := s
    refine for_it (J := J) (n := ds.length) (G := fun H => ∃ O', Gd O' H) (Y := J.yld) ⟨fun i H hi ⟨O', g⟩ => W1.goes i O' H hi g, fun H ⟨O', g⟩ => W1.stops O' H g, fun i H x H' hi g y => y⟩
      (fun i σ' H' => ∃ O' ηi, Mv O H O' H' ∧ Kp as σ σ' ∧ Rep X.K own B T' O' ηi σ' H' ∧ Gd O' H' ∧ Sat ((forGo t (exs cf own b) (ds.drop i) ηi).bind fun f => endK o d f) (PostS X own fr B T O σ H as W) (XS G X B σ as)) ?_ ?_ ?_ ?_
    · exact ⟨O1, η1, Mv.of f1 i1, Kp.refl, R1, g1, s⟩
    · rintro i σ' H' _ ⟨O', ηi, _, _, _, g, _⟩
      exact ⟨O', g⟩
    · rintro i x σ2 H2 H3 hi ⟨O2, ηi, m2, k2, R2, g2, s2⟩ y
      obtain ⟨d', ed, hs, hd⟩ := W1.yields i O2 H2 x H3 hi g2 y R2.tr
      have R3 := R2.same hs
      have ed' : ds.drop i = d' :: ds.drop (i + 1) := by
        rw [List.drop_eq_getElem_cons hi]
        rw [List.getElem?_eq_getElem hi] at ed
        cases ed; rfl
      rw [ed'] at s2
      simp only [forGo] at s2
      rw [bindA] at s2
      obtain ⟨ηb, eb, s2⟩ := okS s2
      rw [bindA] at s2
      have m3 : Mv O H O2 H3 := m2.trans (Mv.of (Same.fr hs) fun _ z => z)
      have g3 : Gd O2 H3 := W1.stab _ _ _ _ _ _ _ g2 (Mv.of (Same.fr hs) fun _ z => z) hL R3
      refine bind_ok hc hN t tg d' x ηi ηb σ2 _ htg eb hd R3 fun σ3 R4 hs3 hl3 => ?_
      have k3 : Kp as σ σ3 := k2.trans ⟨hl3, hs3⟩ (fun _ z => z) it
      have s2 := Sat.bind.mp s2
      have unl : ∀ (O5 : Addr → Prop) (η5 : Env) (σ5 : L2.St) (H5 : Hp), Mv O H O5 H5 → Kp as σ σ5 → Rep X.K own B T' O5 η5 σ5 H5 → Sat (endK o d (.nx η5)) (PostS X own fr B T O σ H as W) (XS G X B σ as) → W.nx σ5 H5 := fun O5 η5 σ5 H5 m5 k5 R5 z => by
        obtain ⟨η6, e6, z⟩ := okS (show Sat ((noer (unlock o d η5)).bind _) _ _ from z)
        have z : PostS X own fr B T O σ H as W (.nx η6) := z
        exact z O5 σ5 H5 m5 k5 (unlock_ok e6 (lk.kp k5 hoi) R5)
      refine hb B T' O2 ηb σ3 H3 _ ht' R4 (Sat.mono s2 (fun f z => ?_) fun c p z => z.step k3 (fun _ z => z) ib)
      cases f with
      | nx η5 => exact fun O5 σ5 H5 m5 k5 R5 => ⟨O5, η5, m3.trans m5, k3.trans k5 (fun _ z => z) ib, R5, W1.stab _ _ _ _ _ _ _ g3 m5 hL R5, z⟩
      | ct η5 => exact fun O5 σ5 H5 m5 k5 R5 => ⟨O5, η5, m3.trans m5, k3.trans k5 (fun _ z => z) ib, R5, W1.stab _ _ _ _ _ _ _ g3 m5 hL R5, z⟩
      | bk η5 => exact fun O5 σ5 H5 m5 k5 R5 => unl O5 η5 σ5 H5 (m3.trans m5) (k3.trans k5 (fun _ z => z) ib) R5 z
      | rt d5 η5 =>
        have z : PostS X own fr B T O σ H as W (.rt d5 η5) := z
        intro O5 v5 σ5 H5 m5 k5 R5 o5 fz
        obtain ⟨O6, i6, R6⟩ := R5.unlk lk
        refine z O6 v5 σ5 H5 ((m3.trans m5).trans (Mv.of Fr.refl i6)) (k3.trans k5 (fun _ z => z) ib) R6 (o5.fr Fr.refl i6) fun h => ?_
        obtain ⟨p, oo, xs, es, h1, h2, h3, h4, h5, h6⟩ := fz h
        exact ⟨p, oo, xs, es, h1, h2, h3, h4, h5, DaL.to (fun a o e n => ⟨e, fun w => n (w.elim (fun w => .inl (i6 a w)) .inr)⟩) es xs h6⟩
    · rintro σ2 H2 ⟨O2, ηi, m2, k2, R2, g2, s2⟩
      rw [List.drop_length] at s2
      simp only [forGo] at s2
      obtain ⟨η6, e6, z⟩ := okS (show Sat ((noer (unlock o d ηi)).bind _) _ _ from s2)
      have z : PostS X own fr B T O σ H as W (.nx η6) := z
      exact z O2 σ2 H2 m2 k2 (unlock_ok e6 (lk.kp k2 hoi) R2)
/-- raise X(e) -/
theorem ss_raise {c : Nat} {q : E} {e ea : Expr} {pos : Pos} (hc : X.calm = true) (nq : q ≠ .no) (hmk : PMk X e (fun σ H Q => RE X ea σ H fun v H1 => ∀ dd, H1 dd = none → Q (.ref (G.adr c)) (some dd) (upd H1 dd (.xd [(G.attr c, v)]))))
    (h : SE G X cf own q ea) : SS G X cf own fr tt (.raise c q) (.Raise (some e) none pos) := by
  intro B T O η σ H W ht R s
  have es : ex cf own (.raise c q) η = (ev cf q η).bind fun x => .er c (some x.1) := by
    cases q <;> first | exact absurd rfl nq | simp only [ex]
  rw [es] at s
  have key : ∀ (Wx : WX), L2.Takes X Wx → (RE X ea σ H fun v H1 => ∀ dd, H1 dd = none → Wx (.ref (G.adr c)) (some dd) σ (upd H1 dd (.xd [(G.attr c, v)]))) → RS X (.Raise (some e) none pos) W σ H := fun Wx tk h => RS.of (ps_raise hc tk hmk) h
  cases r : ev cf q η with
  | er c' p =>
    rw [r] at s
    have s : XS G X B σ (asgS (.raise c q)) c' p := s
    obtain ⟨Wx, tk, hW⟩ := s.here
    exact key Wx tk (h B T O η σ H _ R (by rw [r]; exact s.here))
  | st => rw [r] at s; exact s.elim
  | ok a =>
    obtain ⟨d, η1⟩ := a
    rw [r] at s
    have s : XS G X B σ (asgS (.raise c q)) c (some d) := s
    obtain ⟨Wx, tk, hW⟩ := s.here
    refine key Wx tk (h B T O η σ H _ R ?_)
    rw [r]
    intro O1 v H1 i1 R1 f1 o1 dd hdd
    refine hW _ _ _ ⟨rfl, dd, v, rfl, upd_same, (o1.fr (Fr.new hdd) R1.base)⟩ fun a o ea na => ?_
    have e1 := R1.fr a o ea na
    exact (upd_ne (ne_of_none e1 hdd)).trans e1
/-- raise X() -/
theorem ss_raise0 {c : Nat} {e : Expr} {pos : Pos} (hc : X.calm = true) (hmk : PMk X e (fun σ H Q => Q (.ref (G.adr c)) none H)) : SS G X cf own fr tt (.raise c .no) (.Raise (some e) none pos) := by
  intro B T O η σ H W ht R s
  simp only [ex] at s
  have s : XS G X B σ (asgS (.raise c .no)) c none := s
  obtain ⟨Wx, tk, hW⟩ := s.here
  exact RS.of (ps_raise hc tk hmk) (hW _ none H ⟨rfl, rfl⟩ R.fr)
end
end Py
set_option Elab.async false
set_option linter.all false
set_option maxRecDepth 100000
set_option maxHeartbeats 1000000
namespace Py
open PySem PySem.Spec PyProof.Rows L2
section
variable {G : Exi} {X : Cx} {cf : CF} {own : List Nat} {fr tt : Bool}
/-- a docstring ahead -/
theorem sss_doc {qs : List S} {sts : List Stmt} {x : Str} {j : Nat} {pos pos' : Pos} (h : SSs G X cf own fr tt qs sts) : SSs G X cf own fr tt qs (.Expr (.Constant (.str x) j pos) pos' :: sts) := by
  intro B T O η σ H W ht R s
  exact RSs.of (pss_cons ps_doc (RSs.pss sts)) (h B T O η σ H W ht R s)
end
section
variable {G : Exi} {P : Program} {w : World} {K : PySem.W.Frag} {mg : Str → Option Value} {base : Heap} {x qual : Str} {params : Arguments} {body : List Stmt} {scope : Scope} {kws : List (Str × V)} {f : Addr} {fd : FuncData} {k n i : Nat} {ps : List Str} {defs : List Def} {df : Def}
theorem startE_get {n : Nat} {ds : List D} {j : Nat} {d : D} (h : (startE n ds)[j]? = some (some d)) : ds[j]? = some d := by
  unfold startE at h
  by_cases l : j < ds.length
  · rw [List.getElem?_append_left (by rw [List.length_map]; exact l), List.getElem?_map] at h
    cases e : ds[j]? with
    | none => rw [e] at h; cases h
    | some a => rw [e] at h; cases h; rfl
  · rw [List.getElem?_append_right (by rw [List.length_map]; omega), List.getElem?_replicate] at h
    split at h <;> cases h
theorem start_get {N : List Str} {vs : List V} {j : Nat} {v : V} (h : vs[j]? = some v) : (L2.start N vs)[j]? = some (some v) := by
  unfold L2.start
  have l := (List.getElem?_eq_some_iff.mp h).1
  rw [List.getElem?_append_left (by rw [List.length_map]; exact l), List.getElem?_map, h]
  rfl
theorem pre_len {N ps : List Str} (S : FnScope N ps scope) : ps.length ≤ N.length := by
  have := congrArg List.length S.pre
  rw [List.length_take] at this
  omega
theorem run_nx {η : Env} {r : D × D} {mu fr : Bool} {cf : CF} {fdef : Def} : True := trivial
/-- a def that changes no argument -/
theorem def_n (hdf : defs[i]? = some df) (ht : df.told = none) (hmu : df.mu = false) (F : FunD K x qual params body scope [] kws f fd) (S : FnScope df.N ps scope) (hnp : ps.length = df.np) (how : ∀ j ∈ df.own, df.np ≤ j)
    (hb : ∀ (cdv : Value) (A : Around) (outer : List PySem.Env) (s : Shared) (H : Hp) (E : XK), Room k (A.deeper (envOfC qual scope s.heap.objs.size f cdv)) → SSs G (cxOf (L2.CX P w) P w K mg base df.N qual scope f cdv A outer s H E) (callN defs n) df.own df.fr false df.body body) :
    FnOk P w K mg base (L2.CX P w) (k + 1) f fd ps (SpN G K (callN defs (n + 1)) df.fr i df.np) := by
  refine F.ok S (fun vs H Q E ⟨ds, O, h, _⟩ => h.trans hnp.symm) fun cdv A outer s H vs Q E hr hsp => ?_
  obtain ⟨ds, O, hl, hO, hd, hs⟩ := hsp
  refine ⟨_, RSs.pss body, ?_⟩
  have ld := hd.length
  have e1 : callN defs (n + 1) i ds = runDef (callN defs n) df ds := by
    simp only [callN, hdf]
    rw [if_pos (by omega), runD_none ht]
  rw [e1] at hs
  have hs := Sat.bind.mp hs
  have hN := pre_len S
  let B : Base := ⟨H, fun _ => False, O, [], fun i hi => (nomatch hi), hO⟩
  have vac : ∀ j d, (startE df.N.length ds)[j]? = some (some d) → j ∉ df.own := fun j d e z => by
    have := (List.getElem?_eq_some_iff.mp (startE_get e)).1
    have := how j z
    omega
  have R : Rep K df.own B [] O (startE df.N.length ds) (L2.start df.N vs) H := by
    refine ⟨?_, fun j d e _ => ?_, fun j d e z => absurd z (vac j d e), fun p d z => (nomatch z), fun j k d d' p z _ e => absurd z (vac j d e), fun j d p d' z e => absurd z (vac j d e), fun j d p z _ e => absurd z (vac j d e), fun p d z => (nomatch z), .nil, fun a z => z, hO, fun a o e _ => e⟩
    · unfold startE L2.start
      rw [List.length_append, List.length_append, List.length_map, List.length_map, List.length_replicate, List.length_replicate]
      omega
    · obtain ⟨v, e2, e3⟩ := hd.get (startE_get e)
      exact ⟨v, start_get e2, e3⟩
  refine hb cdv A outer s H E hr B [] O _ _ H _ (fun _ => ⟨rfl, fun _ z => z⟩) R (Sat.mono hs (fun r z => ?_) fun c p z => ?_)
  · have nxt : ∀ (d : D) (η : Env) (O' : Addr → Prop) (v : V) (σ' : L2.St) (H' : Hp), Sat ((noer (outD df.mu η)).bind fun o => Py.R.ok (d, o)) (fun r => ∀ v H', L2.Same H H' → Da K H' O r.1 v → (df.fr = true → Frs K H H' O r.1 v) → Q v H') (fun c p => ∀ cls dd H', L2.Same H H' → XRel G K O c p cls dd H' → E cls dd H') →
        Rep K df.own B [] O' η σ' H' → Da K H' O' d v → (df.fr = true → FrR K B H' O' d v) → Q v H' := fun d η O' v σ' H' z R' dv fz => by
      obtain ⟨o, _, z⟩ := okS z
      refine z v H' (fun a o e => R'.fr a o e fun w => w) (dv.fr Fr.refl R'.base) fun h => ?_
      obtain ⟨p, o1, xs, es, h1, h2, h3, h4, h5, h6⟩ := fz h
      refine ⟨p, o1, xs, es, h1, h2, h3.resolve_right fun w => w, h4, h5, DaL.to (fun a o e n => ⟨e, fun w => n (w.elim (fun w => .inl (R'.base a w)) .inr)⟩) es xs h6⟩
    cases r with
    | rt d η => exact fun O' v σ' H' m kp R' dv fz => nxt d η O' v σ' H' z R' dv fz
    | nx η =>
      intro O' σ' H' m kp R'
      have z : Sat (if df.fr = true then .st else (noer (outD df.mu η)).bind fun o => Py.R.ok (D.non, o)) _ _ := z
      by_cases h : df.fr = true
      · rw [if_pos h] at z; exact z.elim
      · rw [if_neg h] at z
        exact nxt .non η O' .non σ' H' z R' Da.non fun y => absurd y h
    | bk η => exact z.elim
    | ct η => exact z.elim
  · intro σ' _
    exact ⟨fun cls d _ H' => E cls d H', takes_of rfl rfl rfl rfl, fun cls d H' xr fm => z cls d H' (fun a o e => fm a o e fun w => w) xr⟩
/-- a def whose first argument is a list that it may change -/
theorem def_m (hdf : defs[i]? = some df) (ht : df.told = none) (hmu : df.mu = true) (F : FunD K x qual params body scope [] kws f fd) (S : FnScope df.N ps scope) (hnp : ps.length = df.np) (how : ∀ j ∈ df.own, j = 0 ∨ df.np ≤ j) (h0 : 0 ∈ df.own) (hfr : df.fr = false) (has : 0 ∉ asgSs df.body)
    (hb : ∀ (cdv : Value) (A : Around) (outer : List PySem.Env) (s : Shared) (H : Hp) (E : XK), Room k (A.deeper (envOfC qual scope s.heap.objs.size f cdv)) → SSs G (cxOf (L2.CX P w) P w K mg base df.N qual scope f cdv A outer s H E) (callN defs n) df.own false true df.body body) :
    FnOk P w K mg base (L2.CX P w) (k + 1) f fd ps (SpM G K (callN defs (n + 1)) i df.np) := by
  refine F.ok S (fun vs H Q E ⟨d0, ds, p, vs', O, h, _⟩ => h.trans hnp.symm) fun cdv A outer s H vs Q E hr hsp => ?_
  obtain ⟨d0, ds, p, vs', O, hl, rfl, hp, hO, ho, hd, hs⟩ := hsp
  refine ⟨_, RSs.pss body, ?_⟩
  have ld := hd.length
  rw [List.length_cons] at hl
  have e1 : callN defs (n + 1) i (d0 :: ds) = runDef (callN defs n) df (d0 :: ds) := by
    simp only [callN, hdf]
    rw [if_pos (by rw [List.length_cons]; omega), runD_none ht]
  rw [e1] at hs
  have hs := Sat.bind.mp hs
  have hN := pre_len S
  let B : Base := ⟨H, fun a => a = p, O, [0], fun i hi => List.mem_singleton.mp hi, hO⟩
  have only : ∀ j d, (startE df.N.length (d0 :: ds))[j]? = some (some d) → j ∈ df.own → j = 0 := fun j d e z => by
    have l := (List.getElem?_eq_some_iff.mp (startE_get e)).1
    rw [List.length_cons] at l
    rcases how j z with w | w
    · exact w
    · omega
  have R : Rep K df.own B [] O (startE df.N.length (d0 :: ds)) (L2.start df.N (.ref p :: vs')) H := by
    refine ⟨?_, fun j d e z => ?_, fun j d e z => ?_, fun p d z => (nomatch z), fun j k d d' q z1 z2 e1 e2 _ _ => (only j d e1 z1).trans (only k d' e2 z2).symm, fun j d p d' z e _ y => (nomatch y), fun j d q z z2 e _ => absurd (by rw [only j d e z]; exact List.mem_singleton.mpr rfl) z2, fun p d z => (nomatch z), .nil, fun a z => z, hO, fun a o e _ => e⟩
    · unfold startE L2.start
      rw [List.length_append, List.length_append, List.length_map, List.length_map, List.length_replicate, List.length_replicate, List.length_cons, List.length_cons]
      omega
    · have e2 := startE_get e
      cases j with
      | zero => exact absurd h0 z
      | succ j =>
        obtain ⟨v, e3, e4⟩ := hd.get (show ds[j]? = some d by simpa using e2)
        exact ⟨v, start_get (by simpa using e3), e4⟩
    · have e0 := only j d e z
      subst e0
      have e2 := startE_get e
      have e2 : d0 = d := by simpa using e2
      subst e2
      exact ⟨p, start_get rfl, hp, .inr rfl, ho⟩
  refine hb cdv A outer s H E hr B [] O _ _ H _ (fun z => by cases z) R (Sat.mono hs (fun r z => ?_) fun c q z => ?_)
  · have nxt : ∀ (d : D) (η : Env) (O' : Addr → Prop) (v : V) (σ' : L2.St) (H' : Hp), Sat ((noer (outD df.mu η)).bind fun o => Py.R.ok (d, o)) (fun r => ∀ v H', Same1 p H H' → Da K H' O r.1 v → Ob K H' O p r.2 → Q v H') (fun c q => ∀ cls dd H', Same1 p H H' → XRel G K O c q cls dd H' → E cls dd H') →
        Kp (asgSs df.body) (L2.start df.N (.ref p :: vs')) σ' → Rep K df.own B [] O' η σ' H' → Da K H' O' d v → Q v H' := fun d η O' v σ' H' z kp R' dv => by
      obtain ⟨o, eo, z⟩ := okS z
      rw [hmu] at eo
      have e3 : η[0]? = some (some o) := by
        unfold outD at eo
        simp only [if_true] at eo
        split at eo
        · rename_i d e; cases eo; exact e
        · cases eo
      obtain ⟨q, g1, g2, g3, g4⟩ := R'.ow 0 o e3 h0
      have g5 := kp.2 0 has
      rw [g1, start_get (v := .ref p) rfl] at g5
      cases g5
      exact z v H' (fun a o e n => R'.fr a o e n) (dv.fr Fr.refl R'.base) (Ob.to (fun a o e n => ⟨e, fun w => n (R'.base a w)⟩) rfl g4)
    cases r with
    | rt d η => exact fun O' v σ' H' m kp R' dv fz => nxt d η O' v σ' H' z kp R' dv
    | nx η =>
      intro O' σ' H' m kp R'
      have z : Sat (if df.fr = true then .st else (noer (outD df.mu η)).bind fun o => Py.R.ok (D.non, o)) _ _ := z
      rw [hfr, if_neg Bool.false_ne_true] at z
      exact nxt .non η O' .non σ' H' z kp R' Da.non
    | bk η => exact z.elim
    | ct η => exact z.elim
  · intro σ' _
    exact ⟨fun cls d _ H' => E cls d H', takes_of rfl rfl rfl rfl, fun cls d H' xr fm => z cls d H' (fun a o e n => fm a o e n) xr⟩
end
end Py
set_option Elab.async false
set_option linter.all false
set_option maxRecDepth 100000
set_option maxHeartbeats 1000000
/-! x, y = a, b -/
namespace Py
open PySem PySem.Spec PyProof.Rows L2
section
variable {G : Exi} {X : Cx} {cf : CF} {own : List Nat} {fr tt : Bool}
/-- a value to be stored: data, or (o) a list made anew -/
def VE (G : Exi) (X : Cx) (cf : CF) (own : List Nat) (o : Bool) (q : E) (e : Expr) : Prop := if o = true then SF G X cf own q e ∧ ∀ η d η', ev cf q η = .ok (d, η') → (∃ ds, d = .lst ds) ∨ ∃ ks ds, d = .dc ks ds else SE G X cf own q e
def VV (K : PySem.W.Frag) (o : Bool) (T T1 : List (Addr × D)) (O : Addr → Prop) (H : Hp) (d : D) (v : V) : Prop := if o = true then ∃ p, v = .ref p ∧ T1 = (p, d) :: T else T1 = T ∧ Da K H O d v
theorem inV {o : Bool} {q : E} {e : Expr} (h : VE G X cf own o q e) {B : Base} {T : List (Addr × D)} {O : Addr → Prop} {η : Env} {σ : L2.St} {H : Hp} {as : List Nat} {γ : Type} {F : D × Env → R γ} {QF : γ → Prop} {Q : VK} (R : Rep X.K own B T O η σ H)
    (s : Sat ((ev cf q η).bind F) QF (XS G X B σ as))
    (k : ∀ (d : D) (η1 : Env) (T1 : List (Addr × D)) (O1 : Addr → Prop) (v : V) (H1 : Hp), Sat (F (d, η1)) QF (XS G X B σ as) → Mv O H O1 H1 → Rep X.K own B T1 O1 η1 σ H1 → VV X.K o T T1 O1 H1 d v → Q v H1) : RE X e σ H Q := by
  have s := Sat.bind.mp s
  cases o with
  | false =>
    have h : SE G X cf own q e := h
    exact h B T O η σ H Q R (Sat.mono s (fun r z O1 v H1 i1 R1 f1 o1 => k r.1 r.2 T O1 v H1 z (Mv.of f1 i1) R1 ⟨rfl, o1⟩) fun _ _ z => z.here)
  | true =>
    obtain ⟨h, hl⟩ := (show SF G X cf own q e ∧ _ from h)
    refine h B T O η σ H Q R ?_
    cases r : ev cf q η with
    | er c p => rw [r] at s; exact XS.here s
    | st => rw [r] at s; exact s
    | ok a =>
      obtain ⟨d, η1⟩ := a
      rw [r] at s
      rcases hl η d η1 r with ⟨ds, rfl⟩ | ⟨ks, ds, rfl⟩
      · exact fun O1 H1 p xs i1 R1 f1 hp l hd => k _ η1 _ _ _ _ s ((Mv.of f1 i1).trans (Mv.push hp)) (R1.push hp l hd) ⟨p, rfl, rfl⟩
      · exact fun O1 H1 p xs i1 R1 f1 hp l hk hd => k _ η1 _ _ _ _ s ((Mv.of f1 i1).trans (Mv.push hp)) (R1.pushO (Sh.dc hk) hp l hd) ⟨p, rfl, rfl⟩
/-- one value stored -/
theorem Rep.store {K : PySem.W.Frag} {B : Base} {T T1 : List (Addr × D)} {O : Addr → Prop} {η : Env} {σ : L2.St} {H : Hp} {o : Bool} {i : Nat} {d : D} {v : V} (R : Rep K own B T1 O η σ H) (h : VV K o T T1 O H d v) (ho : if o = true then i ∈ own else i ∉ own) : Rep K own B T O (η.set i (some d)) (σ.set i (some v)) H := by
  cases o with
  | false =>
    obtain ⟨rfl, g⟩ := (show T1 = T ∧ Da K H O d v from h)
    exact R.put ho g
  | true =>
    obtain ⟨p, rfl, rfl⟩ := (show ∃ p, v = .ref p ∧ T1 = (p, d) :: T from h)
    exact R.take ho (fun j n => by rw [List.getElem?_set_ne (Ne.symm n)]) (by rw [List.length_set]) fun lt => by rw [List.getElem?_set_self lt]
theorem ss_par2 {i j : Nat} {b1 b2 : Bool} {x y : Str} {q1 q2 : E} {a b : Expr} {px py pt pos : Pos} {kt k2 pt2} (hc : X.calm = true) (hN : X.N.Nodup) (hi : X.N[i]? = some x) (hj : X.N[j]? = some y) (hij : i ≠ j)
    (hx : X.env.scope.names.lookup x = some .local) (hy : X.env.scope.names.lookup y = some .local)
    (hw : swappedStores [.Tuple [.Name x px, .Name y py] kt pt] (.Tuple [a, b] k2 pt2) X.env = pure (some [x, y])) (hs : isStar a = false) (hs2 : isStar b = false)
    (h1 : VE G X cf own b1 q1 a) (h2 : VE G X cf own b2 q2 b) (o1 : if b1 = true then i ∈ own else i ∉ own) (o2 : if b2 = true then j ∈ own else j ∉ own) :
    SS G X cf own fr tt (.par [(i, b1), (j, b2)] [q1, q2]) (.Assign [.Tuple [.Name x px, .Name y py] kt pt] (.Tuple [a, b] k2 pt2) pos) := by
  intro B T O η σ H W ht R s
  simp only [ex, evals] at s
  refine RS.of (ps_par hc hN hi hj hij hx hy (pa_cons (RE.pe a) (pa_cons (RE.pe b) pa_nil (ns_of hs2 _ _)) (ns_of hs _ _)) hw (by rfl)) ?_
  rw [bindA] at s
  refine inV h1 R s fun d1 η1 T1 O1 v1 H1 s1 m1 R1 w1 => ?_
  rw [bindA, bindA] at s1
  refine inV h2 R1 s1 fun d2 η2 T2 O2 v2 H2 s2 m2 R2 w2 => ?_
  have s2 : PostS X own fr B T O σ H [i, j] W (.nx ((η2.set i (some d1)).set j (some d2))) := s2
  have kp : Kp [i, j] σ ((σ.set i (some v1)).set j (some v2)) := (Kp.set (i := i)).trans (Kp.set (i := j)) (fun z hz => by rcases List.mem_singleton.mp hz with rfl; exact List.mem_cons_self ..) (fun z hz => by rcases List.mem_singleton.mp hz with rfl; exact List.mem_cons_of_mem _ (List.mem_cons_self ..))
  refine ⟨v1, v2, rfl, s2 O2 _ H2 (m1.trans m2) kp ?_⟩
  cases b2 with
  | true =>
    have R3 := R2.store w2 o2
    have w3 : VV X.K b1 T T1 O2 H2 d1 v1 := by
      cases b1 with
      | true => exact w1
      | false => exact ⟨w1.1, Da.mv w1.2 m2⟩
    have R4 := R3.store w3 o1
    rwa [List.set_comm _ _ (Ne.symm hij), List.set_comm _ _ (Ne.symm hij)] at R4
  | false =>
    obtain ⟨rfl, w5⟩ := (show T2 = T1 ∧ Da X.K H2 O2 d2 v2 from w2)
    have w3 : VV X.K b1 T T2 O2 H2 d1 v1 := by
      cases b1 with
      | true => exact w1
      | false => exact ⟨w1.1, Da.mv w1.2 m2⟩
    have R3 := R2.store w3 o1
    exact R3.store (o := false) ⟨rfl, w5⟩ o2
/-- x, y = a, b by a tuple that is made and taken apart -/
theorem ss_parU {i j : Nat} {b1 b2 : Bool} {x y : Str} {q1 q2 : E} {a b : Expr} {px py pt pos : Pos} {kt k2 pt2} (hc : X.calm = true) (hN : X.N.Nodup) (hi : X.N[i]? = some x) (hj : X.N[j]? = some y) (hij : i ≠ j)
    (hx : Loc X.env.scope x) (hy : Loc X.env.scope y) (fx : X.fn x = true ∨ X.env.scope.names.lookup x = some .local) (fy : X.fn y = true ∨ X.env.scope.names.lookup y = some .local)
    (hw : swappedStores [.Tuple [.Name x px, .Name y py] kt pt] (.Tuple [a, b] k2 pt2) X.env = pure none) (hsw : swapsWithSole [.Tuple [.Name x px, .Name y py] kt pt] (.Tuple [a, b] k2 pt2) pos.line X.env = pure false) (hs : isStar a = false) (hs2 : isStar b = false)
    (h1 : VE G X cf own b1 q1 a) (h2 : VE G X cf own b2 q2 b) (o1 : if b1 = true then i ∈ own else i ∉ own) (o2 : if b2 = true then j ∈ own else j ∉ own) :
    SS G X cf own fr tt (.par [(i, b1), (j, b2)] [q1, q2]) (.Assign [.Tuple [.Name x px, .Name y py] kt pt] (.Tuple [a, b] k2 pt2) pos) := by
  intro B T O η σ H W ht R s
  simp only [ex, evals] at s
  refine RS.of (ps_asg (RE.pe _) (pg_tup (n := 2) hc (pgs_cons (pg_name hN hi hx fx) (pgs_cons (pg_name hN hj hy fy) pgs_nil rfl) rfl) rfl (by rfl)) hsw hw rfl) ?_
  refine RE.of (pe_tup (pa_cons (RE.pe a) (pa_cons (RE.pe b) pa_nil (ns_of hs2 _ _)) (ns_of hs _ _))) ?_
  rw [bindA] at s
  refine inV h1 R s fun d1 η1 T1 O1 v1 H1 s1 m1 R1 w1 => ?_
  rw [bindA, bindA] at s1
  refine inV h2 R1 s1 fun d2 η2 T2 O2 v2 H2 s2 m2 R2 w2 => ?_
  have s2 : PostS X own fr B T O σ H [i, j] W (.nx ((η2.set i (some d1)).set j (some d2))) := s2
  have kp : Kp [i, j] σ ((σ.set i (some v1)).set j (some v2)) := (Kp.set (i := i)).trans (Kp.set (i := j)) (fun z hz => by rcases List.mem_singleton.mp hz with rfl; exact List.mem_cons_self ..) (fun z hz => by rcases List.mem_singleton.mp hz with rfl; exact List.mem_cons_of_mem _ (List.mem_cons_self ..))
  refine ⟨by rw [← LIM_line]; show 2 ≤ 16777216; omega, fun p hp => ⟨p, [v1, v2], rfl, SqT.of upd_same, rfl, v1, [v2], rfl, v2, [], rfl, rfl, ?_⟩⟩
  have m3 : Mv O2 H2 O2 (upd H2 p (.tup [v1, v2])) := Mv.of (Fr.new hp) fun _ z => z
  have R2 := R2.same (Same.new (o := .tup [v1, v2]) hp)
  refine s2 O2 _ _ ((m1.trans m2).trans m3) kp ?_
  have w2 : VV X.K b2 T1 T2 O2 (upd H2 p (.tup [v1, v2])) d2 v2 := by
    cases b2 with
    | true => exact w2
    | false => exact ⟨w2.1, Da.mv w2.2 m3⟩
  cases b2 with
  | true =>
    have R3 := R2.store w2 o2
    have w3 : VV X.K b1 T T1 O2 (upd H2 p (.tup [v1, v2])) d1 v1 := by
      cases b1 with
      | true => exact w1
      | false => exact ⟨w1.1, Da.mv w1.2 (m2.trans m3)⟩
    have R4 := R3.store w3 o1
    rwa [List.set_comm _ _ (Ne.symm hij), List.set_comm _ _ (Ne.symm hij)] at R4
  | false =>
    obtain ⟨rfl, w5⟩ := (show T2 = T1 ∧ Da X.K _ O2 d2 v2 from w2)
    have w3 : VV X.K b1 T T2 O2 (upd H2 p (.tup [v1, v2])) d1 v1 := by
      cases b1 with
      | true => exact w1
      | false => exact ⟨w1.1, Da.mv w1.2 (m2.trans m3)⟩
    have R3 := R2.store w3 o1
    exact R3.store (o := false) ⟨rfl, w5⟩ o2
/-- x, y, z = a, b, c -/
theorem ss_par3 {i j l : Nat} {x y z : Str} {q1 q2 q3 : E} {a b c : Expr} {px py pz pt pos : Pos} {kt k2 pt2} (hc : X.calm = true) (hN : X.N.Nodup) (hi : X.N[i]? = some x) (hj : X.N[j]? = some y) (hl : X.N[l]? = some z) (hij : i ≠ j) (hil : i ≠ l) (hjl : j ≠ l)
    (hx : X.env.scope.names.lookup x = some .local) (hy : X.env.scope.names.lookup y = some .local) (hz : X.env.scope.names.lookup z = some .local)
    (hw : swappedStores [.Tuple [.Name x px, .Name y py, .Name z pz] kt pt] (.Tuple [a, b, c] k2 pt2) X.env = pure (some [x, y, z])) (hs : isStar a = false) (hs2 : isStar b = false) (hs3 : isStar c = false)
    (h1 : SE G X cf own q1 a) (h2 : SE G X cf own q2 b) (h3 : SE G X cf own q3 c) (o1 : i ∉ own) (o2 : j ∉ own) (o3 : l ∉ own) :
    SS G X cf own fr tt (.par [(i, false), (j, false), (l, false)] [q1, q2, q3]) (.Assign [.Tuple [.Name x px, .Name y py, .Name z pz] kt pt] (.Tuple [a, b, c] k2 pt2) pos) := by
  intro B T O η σ H W ht R s
  simp only [ex, evals] at s
  refine RS.of (ps_par3 hc hN hi hj hl hij hil hjl hx hy hz (pa_cons (RE.pe a) (pa_cons (RE.pe b) (pa_cons (RE.pe c) pa_nil (ns_of hs3 _ _)) (ns_of hs2 _ _)) (ns_of hs _ _)) hw (by rfl)) ?_
  rw [bindA] at s
  refine inS h1 R s fun d1 η1 O1 v1 H1 s1 i1 R1 f1 w1 => ?_
  rw [bindA, bindA] at s1
  refine inS h2 R1 s1 fun d2 η2 O2 v2 H2 s2 i2 R2 f2 w2 => ?_
  rw [bindA, bindA] at s2
  refine inS h3 R2 s2 fun d3 η3 O3 v3 H3 s3 i3 R3 f3 w3 => ?_
  have s3 : PostS X own fr B T O σ H [i, j, l] W (.nx (((η3.set i (some d1)).set j (some d2)).set l (some d3))) := s3
  have kp : Kp [i, j, l] σ (((σ.set i (some v1)).set j (some v2)).set l (some v3)) := by
    refine ⟨by rw [List.length_set, List.length_set, List.length_set], fun k n => ?_⟩
    have n : k ≠ i ∧ k ≠ j ∧ k ≠ l := by simpa using n
    rw [List.getElem?_set_ne (Ne.symm n.2.2), List.getElem?_set_ne (Ne.symm n.2.1), List.getElem?_set_ne (Ne.symm n.1)]
  refine ⟨v1, v2, v3, rfl, s3 O3 _ H3 (((Mv.of f1 i1).trans (Mv.of f2 i2)).trans (Mv.of f3 i3)) kp ?_⟩
  exact ((R3.put o1 ((w1.fr f2 i2).fr f3 i3)).put o2 (w2.fr f3 i3)).put o3 w3
/-- a tuple taken apart -/
theorem ss_unp {t : Tg} {tg : Expr} {q : E} {e : Expr} {pos : Pos} (hc : X.calm = true) (hN : X.N.Nodup) (htg : TgR X own t tg) (hs : swapsWithSole [tg] e pos.line X.env = pure false) (hw : swappedStores [tg] e X.env = pure none) (h : SE G X cf own q e) :
    SS G X cf own fr tt (.unp t q) (.Assign [tg] e pos) := by
  intro B T O η σ H W ht R s
  simp only [ex] at s
  refine RS.of (ps_asg (RE.pe e) (RG.pg tg) hs hw (by rw [htg.each]; rfl)) ?_
  refine inS h R s fun d η1 O1 v H1 s1 i1 R1 f1 o1 => ?_
  obtain ⟨η2, e2, s1⟩ := okS s1
  have s1 : PostS X own fr B T O σ H (tgSlots t) W (.nx η2) := s1
  exact bind_ok hc hN t tg d v η1 η2 σ _ htg e2 o1 R1 fun σ' R2 z l => s1 O1 σ' H1 (Mv.of f1 i1) ⟨l, z⟩ R2
/-- x, y = constants: the tuple is one -/
theorem ss_parK {i j : Nat} {x y : Str} {d1 d2 : D} {a b : Expr} {px py pt pos : Pos} {kt k2 pt2} (hc : X.calm = true) (hN : X.N.Nodup) (hi : X.N[i]? = some x) (hj : X.N[j]? = some y)
    (hx : Loc X.env.scope x) (hy : Loc X.env.scope y) (fx : X.fn x = true ∨ X.env.scope.names.lookup x = some .local) (fy : X.fn y = true ∨ X.env.scope.names.lookup y = some .local)
    (hw : swappedStores [.Tuple [.Name x px, .Name y py] kt pt] (.Tuple [a, b] k2 pt2) X.env = pure none) (hs : swapsWithSole [.Tuple [.Name x px, .Name y py] kt pt] (.Tuple [a, b] k2 pt2) pos.line X.env = pure false)
    (s1 : isStar a = false) (s2 : isStar b = false) (h1 : SE G X cf own (.k d1) a) (h2 : SE G X cf own (.k d2) b) (o1 : i ∉ own) (o2 : j ∉ own) :
    SS G X cf own fr tt (.par [(i, false), (j, false)] [.k d1, .k d2]) (.Assign [.Tuple [.Name x px, .Name y py] kt pt] (.Tuple [a, b] k2 pt2) pos) := by
  have ht : TgR X own (.tup [.name i, .name j]) (.Tuple [.Name x px, .Name y py] kt pt) := by
    simp only [TgR, TgRs]
    exact ⟨_, _, _, rfl, _, _, rfl, ⟨x, px, rfl, hi, hx, fx, o1⟩, _, _, rfl, ⟨y, py, rfl, hj, hy, fy, o2⟩, rfl⟩
  have hq : SE G X cf own (.tup [.k d1, .k d2]) (.Tuple [a, b] k2 pt2) :=
    se_tup (sos_cons (h1.so fun i z => nomatch z) (sos_cons (h2.so fun i z => nomatch z) sos_nil (ns_of s2 _ _)) (ns_of s1 _ _)) (by show 2 ≤ 16777216; omega)
  intro B T O η σ H W hT R s
  have e : ex cf own (.unp (.tup [.name i, .name j]) (.tup [.k d1, .k d2])) η = ex cf own (.par [(i, false), (j, false)] [.k d1, .k d2]) η := rfl
  rw [← e] at s
  exact ss_unp hc hN ht hs hw hq B T O η σ H W hT R s
end
end Py
set_option Elab.async false
set_option linter.all false
set_option maxRecDepth 100000
set_option maxHeartbeats 1000000
/-! calls by keywords, and with a list made anew -/
namespace Py
open PySem PySem.Spec PyProof.Rows L2
abbrev KwL := List (Str × Expr × Pos)
def kwsOf (l : KwL) : List Keyword := l.map fun t => ⟨some t.1, t.2.1, t.2.2⟩
theorem kw_names (pos : Pos) (env : PySem.Env) : ∀ l : KwL, (backToKw pos (keywordEach (kwsOf l) env)).map (·.1) = l.map fun t => some t.1
  | [] => rfl
  | t :: l => by
    show some t.1 :: (backToKw pos (keywordEach (kwsOf l) env)).map (·.1) = some t.1 :: _
    rw [kw_names pos env l]
theorem kw_all (pos : Pos) (env : PySem.Env) (l : KwL) : (backToKw pos (keywordEach (kwsOf l) env)).all (·.1.isSome) = true := by
  have h := kw_names pos env l
  rw [List.all_eq_true]
  intro x hx
  have : x.1 ∈ (backToKw pos (keywordEach (kwsOf l) env)).map (·.1) := List.mem_map.mpr ⟨x, hx, rfl⟩
  rw [h] at this
  obtain ⟨t, _, e⟩ := List.mem_map.mp this
  rw [← e]; rfl
theorem kw_any (pos : Pos) (env : PySem.Env) (l : KwL) : (backToKw pos (keywordEach (kwsOf l) env)).any (·.1.isNone) = false := by
  rw [List.any_eq_false]
  intro x hx
  have := List.all_eq_true.mp (kw_all pos env l) x hx
  cases h : x.1 with
  | none => rw [h] at this; cases this
  | some a => simp
theorem kw_filter (pos : Pos) (env : PySem.Env) (l : KwL) : (backToKw pos (keywordEach (kwsOf l) env)).filterMap (·.1) = l.map (·.1) := by
  induction l with
  | nil => rfl
  | cons t l ih =>
    show List.filterMap (·.1) ((some t.1, _) :: backToKw pos (keywordEach (kwsOf l) env)) = _
    rw [List.filterMap_cons, List.map_cons, ih]
/-- how keywords alone are bound -/
def KwB (K : PySem.W.Frag) (fd : FuncData) (ps ks : List Str) (ord : List Nat) : Prop := ∀ (s : Shared) (ws : List Value), K.In s.heap → ws.length = ks.length → BindsTo s fd ⟨[], ks.zip ws⟩ (ps.zip (ord.map fun j => ws.getD j .none))
theorem vals_getD : ∀ {zs : List V} {ws : List Value}, Vals zs ws → ∀ j, RelV (zs.getD j .non) (ws.getD j .none)
  | _, _, .nil, j => rfl
  | _, _, .cons r rr, 0 => r
  | _, _, .cons r rr, j + 1 => vals_getD rr j
theorem vals_ord {zs : List V} {ws : List Value} (h : Vals zs ws) : ∀ ord : List Nat, Vals (ord.map fun j => zs.getD j .non) (ord.map fun j => ws.getD j .none)
  | [] => .nil
  | j :: ord => .cons (vals_getD h j) (vals_ord h ord)
theorem DaL.getD {K : PySem.W.Frag} {H : Hp} {O : Addr → Prop} : ∀ {ds : List D} {vs : List V}, DaL K H O ds vs → ∀ j, Da K H O (ds.getD j .non) (vs.getD j .non)
  | [], vs, h, j => by simp only [DaL] at h; subst h; exact Da.non
  | d :: ds, vs, h, j => by
    simp only [DaL] at h
    obtain ⟨v, us, rfl, h1, h2⟩ := h
    cases j with
    | zero => exact h1
    | succ j => exact DaL.getD h2 j
theorem DaL.ord {K : PySem.W.Frag} {H : Hp} {O : Addr → Prop} {ds : List D} {vs : List V} (h : DaL K H O ds vs) : ∀ ord : List Nat, DaL K H O (ord.map fun j => ds.getD j .non) (ord.map fun j => vs.getD j .non)
  | [] => DaL.nil
  | j :: ord => DaL.cons (h.getD j) (DaL.ord h ord)
section
variable {G : Exi} {X : Cx} {cf : CF} {own : List Nat}
def RK (X : Cx) (kws : List Keyword) : TA := fun σ H Q => ∀ (pos : Pos) (pins : List (Addr × Obj)) (s : Shared), Inv X pins σ H s → wpAny (model X.prog X.w) X.A (evalAll ((backToKw pos (keywordEach kws X.env)).map (·.2))) (AP X pins σ Q) X.xe s
theorem RK.pk (kws : List Keyword) : PK X kws (RK X kws) := ⟨fun pos pins s σ H Q I h => h pos pins s I⟩
theorem RK.of {kws : List Keyword} {t : TA} (h : PK X kws t) {σ : L2.St} {H : Hp} {Q : List V → Hp → Prop} (q : t σ H Q) : RK X kws σ H Q := fun pos pins s I => h.run pos pins s σ H Q I q
def SKs (G : Exi) (X : Cx) (cf : CF) (own : List Nat) (qs : List E) (kws : List Keyword) : Prop := ∀ (B : Base) (T : List (Addr × D)) (O : Addr → Prop) (η : Env) (σ : L2.St) (H : Hp) (Q : List V → Hp → Prop), Rep X.K own B T O η σ H →
  Sat (evs cf qs η) (PostOs X own B T O σ H Q) (XOk G X B σ) → RK X kws σ H Q
theorem sks_nil : SKs G X cf own [] [] := by
  intro B T O η σ H Q R s
  simp only [evs] at s
  exact RK.of pk_nil (s O [] H (fun _ z => z) R Fr.refl rfl (fun i z => nomatch z))
theorem sks_cons {q : E} {qs : List E} {nm : Option Str} {e : Expr} {kp : Pos} {kws : List Keyword} (h : SO G X cf own q e) (hs : SKs G X cf own qs kws) : SKs G X cf own (q :: qs) (⟨nm, e, kp⟩ :: kws) := by
  intro B T O η σ H Q R s
  simp only [evs] at s
  refine RK.of (pk_cons (RE.pe e) (RK.pk kws)) ?_
  show RE X e σ H fun x H1 => RK X kws σ H1 fun xs H2 => Q (x :: xs) H2
  refine one h R s fun x η1 O1 v H1 s1 i1 R1 f1 o1 n1 => ?_
  refine hs B T O1 η1 σ H1 _ R1 (Sat.mono (Sat.bind.mp s1) (fun r z O2 vs H2 i2 R2 f2 o2 n2 => ?_) fun _ _ z => z)
  refine z O2 (v :: vs) H2 (fun a y => i1 a (i2 a y)) R2 (f1.trans i1 f2) ⟨v, vs, rfl, o1.fr f2 i2, o2⟩ fun i hi => ?_
  rcases List.mem_cons.mp hi with hi | hi
  · exact n1 i hi.symm
  · exact n2 i hi
theorem run_kw {CX : CXT} {k : Nat} {f : Addr} {fd : FuncData} {ps ks : List Str} {ord : List Nat} {sp : Sp} {E : L2.St → XK} {pins : List (Addr × Obj)} {σ : L2.St} {H : Hp} {s : Shared} {Q : VK} {ws : List Value} {zs : List V} (F : FnOk X.prog X.w X.K X.mg X.base CX k f fd ps sp) (hr : Room k X.A) (hb : KwB X.K fd ps ks ord) (hx : PassesAt CX X σ (E σ))
    (I : Inv X pins σ H s) (rz : Vals zs ws) (hz : ws.length = ks.length) (h : sp (ord.map fun j => zs.getD j .non) H Q (E σ)) : wpAny (model X.prog X.w) X.A (call (.ref f) [] (ks.zip ws)) (EP X pins σ Q) X.xe s := by
  refine wpAny_call (codeAny_mono (F.run X.A X.stack s H ⟨[], ks.zip ws⟩ _ _ Q (E σ) hr I.env0 (hb s ws I.kIn hz) (vals_ord rz ord) h) fun r s' hq => ?_)
  cases r with
  | error e => exact hx pins H s e s' I hq
  | ok fl =>
    cases fl with
    | ret u => exact I.after hq
    | next => exact False.elim hq
    | brk => exact False.elim hq
    | cont => exact False.elim hq
theorem re_callk {k : Nat} {f : Addr} {fd : FuncData} {ps : List Str} {ord : List Nat} {sp : Sp} {x : Str} {p pos : Pos} {l : KwL} (F : FnOk X.prog X.w X.K X.mg X.base (L2.CX X.prog X.w) k f fd ps sp) (hr : Room k X.A) (hg : Gl X x) (hm : X.mg x = some (.ref f)) (hk : PySem.W.keepIn X.K (.ref f) = true) (hb : KwB X.K fd ps (l.map (·.1)) ord)
    (hdb : (x == ("__debug__" : Str)) = false) (E : L2.St → XK) (hx : ∀ σ, PassesAt (L2.CX X.prog X.w) X σ (E σ)) {σ : L2.St} {H : Hp} {Q : VK} (h : RK X (kwsOf l) σ H fun zs H1 => zs.length = l.length ∧ sp (ord.map fun j => zs.getD j .non) H1 Q (E σ)) : RE X (.Call (.Name x p) [] (kwsOf l) pos) σ H Q := by
  intro pins s I
  refine wpAny_Call_Name_kw (ld_glob I hg hm ?_ hdb)
  refine PySem.W.callWith_KW0 (h₀ := X.base) I.ok.mod.kin hk (kw_all pos X.env l) (thn (h pos pins s I) fun ws s2 ⟨zs, H2, I2, rz, hl, q2⟩ => ⟨I2.kIn, ?_⟩) (by rw [kw_any]; rfl)
  rw [kw_filter]
  refine run_kw F hr hb (hx σ) I2 rz ?_ q2
  rw [← rz.length, hl, List.length_map]
/-- f(a = .., b = ..) -/
theorem se_callk {f np k : Nat} {fr : Bool} {as : List E} {ord : List Nat} {l : KwL} {x : Str} {p pos : Pos} {fa : Addr} {fd : FuncData} {ps : List Str} (F : FnOk X.prog X.w X.K X.mg X.base (L2.CX X.prog X.w) k fa fd ps (SpN G X.K cf fr f np)) (hr : Room k X.A) (hg : Gl X x) (hm : X.mg x = some (.ref fa)) (hk : PySem.W.keepIn X.K (.ref fa) = true) (hb : KwB X.K fd ps (l.map (·.1)) ord)
    (hdb : (x == ("__debug__" : Str)) = false) (ha : SKs G X cf own as (kwsOf l)) (hl : as.length = l.length) (ho : ord.length = np) (h0 : ∀ i, .p i ∈ as → i ≠ 0) : SE G X cf own (.callk f false ord as) (.Call (.Name x p) [] (kwsOf l) pos) := by
  intro B T O η σ H Q R s
  simp only [ev] at s
  have key : ∀ (Ex : L2.St → XK), (∀ σ, PassesAt (L2.CX X.prog X.w) X σ (Ex σ)) → Sat (evs cf as η) (PostOs X own B T O σ H (fun zs H1 => zs.length = l.length ∧ SpN G X.K cf fr f np (ord.map fun j => zs.getD j .non) H1 Q (Ex σ))) (XOk G X B σ) → RE X (.Call (.Name x p) [] (kwsOf l) pos) σ H Q :=
    fun Ex hx h => re_callk F hr hg hm hk hb hdb Ex hx (ha B T O η σ H _ R h)
  cases h1 : evs cf as η with
  | er c q => rw [h1] at s; exact key NoX pass_no (by rw [h1]; exact s)
  | st => rw [h1] at s; exact s.elim
  | ok a =>
    obtain ⟨os, η1⟩ := a
    rw [h1] at s
    obtain ⟨ds, h2, s⟩ := okS (show Sat ((noer (rds os η1)).bind _) _ _ from s)
    have ev_in := evs_inr h1
    have lo : os.length = l.length := (evs_length h1).trans hl
    have core : ∀ (Ex : L2.St → XK), Sat (cf f (ord.map fun j => ds.getD j .non)) (fun r => Post X own B T O σ H Q (r.1, dropP r.1 (places os) η1)) (fun c p => ∀ cls d H', XRel G X.K B.O c p cls d H' → (∀ a o, B.H a = some o → ¬ B.M a → H' a = some o) → Ex σ cls d H') →
        PostOs X own B T O σ H (fun zs H1 => zs.length = l.length ∧ SpN G X.K cf fr f np (ord.map fun j => zs.getD j .non) H1 Q (Ex σ)) (os, η1) := by
      intro Ex s O1 vs H1 i1 R1 f1 o1 n1
      have hp : ∀ i ∈ places os, i ∈ own ∧ i ≠ 0 ∧ ∃ d, η1[i]? = some (some d) := fun i hi => ⟨n1 i (places_mem hi), h0 i (ev_in i (places_mem hi)), rds_places h2 i hi⟩
      have R2 := R1.drops hp
      refine ⟨o1.length.trans lo, ord.map fun j => ds.getD j .non, Oc σ O1 (places os), by rw [List.length_map]; exact ho, fun a z => R1.tr a z.1, (args_da R1 h2 o1 n1 (places os) fun i hi => hi).ord ord, ?_⟩
      refine Sat.mono s (fun r z => ?_) fun c p z => ?_
      · intro v H' sm dv _
        unfold dropP at z
        cases c : flat r.1 with
        | true =>
          rw [c] at z
          exact z O1 v H' i1 (R1.same sm) (f1.trans i1 (Same.fr sm)) (Da.flat c dv _ _)
        | false =>
          rw [c] at z
          exact z (Oc σ O1 (places os)) v H' (fun a y => i1 a y.1) (R2.same sm) (f1.trans i1 (Same.fr sm)) dv
      · intro cls dd H' sm xr
        exact z cls dd H' (xr.sub R2.base) fun a o e m => sm a o (R1.fr a o e m)
    cases h3 : cf f (ord.map fun j => ds.getD j .non) with
    | st => rw [h3] at s; exact s.elim
    | ok r =>
      rw [h3] at s
      refine key NoX pass_no ?_
      rw [h1]
      exact core NoX (by rw [h3]; exact s)
    | er c q =>
      rw [h3] at s
      obtain ⟨W, tk, hW⟩ := (show XOk G X B σ c q from s)
      refine key (WE W) (passAt tk) ?_
      rw [h1]
      exact core (WE W) (by rw [h3]; exact hW)
/-- f(g(..)), the list that g made is changed by f -/
theorem se_callb {f g np k1 k2 : Nat} {as : List E} {e : Expr} {es : List Expr} {x y : Str} {p p2 pos pos2 : Pos} {fa ga : Addr} {fd gd : FuncData} {ps ps2 : List Str} (F : FnOk X.prog X.w X.K X.mg X.base (L2.CX X.prog X.w) k1 fa fd ps (SpM G X.K cf f 1)) (hr : Room k1 X.A) (hg : Gl X x) (hm : X.mg x = some (.ref fa)) (hk : PySem.W.keepIn X.K (.ref fa) = true) (hb : Binds X.K fd ps [])
    (hdb : (x == ("__debug__" : Str)) = false) (F2 : FnOk X.prog X.w X.K X.mg X.base (L2.CX X.prog X.w) k2 ga gd ps2 (SpN G X.K cf true g np)) (hr2 : Room k2 X.A) (hg2 : Gl X y) (hm2 : X.mg y = some (.ref ga)) (hk2 : PySem.W.keepIn X.K (.ref ga) = true) (hb2 : Binds X.K gd ps2 []) (hdb2 : (y == ("__debug__" : Str)) = false)
    (hs : ∀ z ∈ e :: es, isStar z = false) (ha : SOs G X cf own as (e :: es)) (hl : as.length = np) (h0 : ∀ i, .p i ∈ as → i ≠ 0) : SE G X cf own (.callb f g as) (.Call (.Name x p) [.Call (.Name y p2) (e :: es) [] pos2] [] pos) := by
  intro B T O η σ H Q R s
  simp only [ev] at s
  have key : ∀ (Ex : L2.St → XK), (∀ σ, PassesAt (L2.CX X.prog X.w) X σ (Ex σ)) → Sat (evs cf as η) (PostOs X own B T O σ H (fun vs H1 => SpN G X.K cf true g np vs H1 (fun v H2 => SpM G X.K cf f 1 [v] H2 Q (Ex σ)) (Ex σ))) (XOk G X B σ) → RE X (.Call (.Name x p) [.Call (.Name y p2) (e :: es) [] pos2] [] pos) σ H Q :=
    fun Ex hx h => re_call F hr hg hm hk hb hdb (fun z hz => by rcases List.mem_singleton.mp hz with rfl; rfl) Ex hx (RA.of (pa_cons (RE.pe _) pa_nil rfl) (re_call F2 hr2 hg2 hm2 hk2 hb2 hdb2 hs Ex hx (ha B T O η σ H _ R h)))
  cases h1 : evs cf as η with
  | er c q => rw [h1] at s; exact key NoX pass_no (by rw [h1]; exact s)
  | st => rw [h1] at s; exact s.elim
  | ok a =>
    obtain ⟨os, η1⟩ := a
    rw [h1] at s
    obtain ⟨ds, h2, s⟩ := okS (show Sat ((noer (rds os η1)).bind _) _ _ from s)
    have ev_in := evs_inr h1
    have lo : os.length = np := (evs_length h1).trans hl
    have core : ∀ (Ex : L2.St → XK), Sat (cf g ds) (fun b => Sat (cf f [b.1]) (fun r => Post X own B T O σ H Q (r.1, dropP b.1 (places os) η1)) (fun c p => ∀ cls d H', XRel G X.K B.O c p cls d H' → (∀ a o, B.H a = some o → ¬ B.M a → H' a = some o) → Ex σ cls d H'))
          (fun c p => ∀ cls d H', XRel G X.K B.O c p cls d H' → (∀ a o, B.H a = some o → ¬ B.M a → H' a = some o) → Ex σ cls d H') →
        PostOs X own B T O σ H (fun vs H1 => SpN G X.K cf true g np vs H1 (fun v H2 => SpM G X.K cf f 1 [v] H2 Q (Ex σ)) (Ex σ)) (os, η1) := by
      intro Ex s O1 vs H1 i1 R1 f1 o1 n1
      have hp : ∀ i ∈ places os, i ∈ own ∧ i ≠ 0 ∧ ∃ d, η1[i]? = some (some d) := fun i hi => ⟨n1 i (places_mem hi), h0 i (ev_in i (places_mem hi)), rds_places h2 i hi⟩
      have R2 := R1.drops hp
      refine ⟨ds, Oc σ O1 (places os), o1.length.trans lo, fun a z => R1.tr a z.1, args_da R1 h2 o1 n1 (places os) fun i hi => hi, ?_⟩
      refine Sat.mono s (fun b z => ?_) fun c p z => ?_
      · intro v H' sm dv fz
        obtain ⟨q, ob, xs, zs, rfl, eb, q1, q2, q3, q4⟩ := fz rfl
        have nf : flat b.1 = false := by rcases eb with ⟨e, _⟩ | ⟨_, e, _⟩ <;> rw [e] <;> rfl
        have tr1 : ∀ a, (Oc σ O1 (places os) a ∨ a = q) → ∃ o, H' a = some o := fun a w => by
          rcases w with w | w
          · obtain ⟨o, e⟩ := R1.tr a w.1
            exact ⟨o, sm a o e⟩
          · exact ⟨_, by rw [w]; exact q2⟩
        refine ⟨b.1, [], q, [], fun a => Oc σ O1 (places os) a ∨ a = q, rfl, rfl, .inr rfl, tr1, ⟨ob, xs, zs, eb, q2, q3, q4⟩, DaL.nil, ?_⟩
        have sm2 : ∀ {H2 : Hp}, Same1 q H' H2 → L2.Same H1 H2 := fun {H2} s1 a o e => s1 a o (sm a o e) fun w => by rw [w, q1] at e; cases e
        refine Sat.mono z (fun r y => ?_) fun c p y => ?_
        · intro v2 H2 s1 dv2 _
          unfold dropP at y
          rw [nf] at y
          exact y (Oc σ O1 (places os)) v2 H2 (fun a w => i1 a w.1) (R2.same (sm2 s1)) (f1.trans i1 (Same.fr (sm2 s1))) (dv2.fr Fr.refl fun a w => .inl w)
        · intro cls dd H2 s1 xr
          exact y cls dd H2 (xr.sub fun a w => .inl (R2.base a w)) fun a o e m => sm2 s1 a o (R1.fr a o e m)
      · intro cls dd H' sm xr
        exact z cls dd H' (xr.sub R2.base) fun a o e m => sm a o (R1.fr a o e m)
    cases h3 : cf g ds with
    | st => rw [h3] at s; exact s.elim
    | er c q =>
      rw [h3] at s
      obtain ⟨W, tk, hW⟩ := (show XOk G X B σ c q from s)
      refine key (WE W) (passAt tk) ?_
      rw [h1]
      exact core (WE W) (by rw [h3]; exact hW)
    | ok b =>
      rw [h3] at s
      have s : Sat ((cf f [b.1]).bind fun x => Py.R.ok (x.1, dropP b.1 (places os) η1)) (Post X own B T O σ H Q) (XOk G X B σ) := s
      cases h4 : cf f [b.1] with
      | st => rw [h4] at s; exact s.elim
      | ok r =>
        rw [h4] at s
        refine key NoX pass_no ?_
        rw [h1]
        exact core NoX (by rw [h3]; show Sat (cf f [b.1]) _ _; rw [h4]; exact s)
      | er c q =>
        rw [h4] at s
        obtain ⟨W, tk, hW⟩ := (show XOk G X B σ c q from s)
        refine key (WE W) (passAt tk) ?_
        rw [h1]
        exact core (WE W) (by rw [h3]; show Sat (cf f [b.1]) _ _; rw [h4]; exact hW)
end
end Py
set_option Elab.async false
set_option linter.all false
set_option maxRecDepth 100000
set_option maxHeartbeats 4000000
/-! an own error class, called by keywords -/
namespace Py
open PySem PySem.W PySem.Calls PySem.HandSPX
section
variable {prog : Program} {w : World} {A : Around} {E : Value → Shared → Prop} {R : Result → Shared → Prop} {h : Heap} {g : Array GenState} {d : Drawn} {t : Nat} {os : OsState}
variable {nm q : Str} {C N : Addr} {bs bm bmB : List Value} {hdct : Bool} {sn : List Str} {sub : List Value} {ab : Bool} {col : Option Bool} {dd : Option Addr} {k0 k1 k2 k3 k5 : Option Value} {B newId initId : String}
variable {kw : List (Str × Value)}
theorem kw_new_check {M : Model} {Q : Unit → Shared → Prop} (Fa : ExcBaseFacts B newId initId bmB) (same : ∀ T : String, bm.contains (.type T) = bmB.contains (.type T))
    (cls : h.get? C = some (excClassObj nm q C N bs bm hdct sn sub ab col dd k0 k1 k2 k3 k5 newId)) (k : Q () ⟨h, g, d, t, os⟩) : wpAny M A (checkBuiltinCall newId ⟨[.ref C], kw⟩) Q E ⟨h, g, d, t, os⟩ := by
  have star := Fa.noStar
  have yes : (Value.ref C :: bm).contains (.type B) = true := by rw [List.contains_cons, same, Fa.hasB, Bool.or_true]
  simp only [checkBuiltinCall, Fa.newSplit, Fa.newKind, Fa.newRow]
  repeat (first | (refine wpAny_isSubtype_exc cls ?_; rw [yes]) | refine wpAny_loadPart_at cls ?_ | refine wpAny_madeBy_exc cls ?_ | refine wpAny_staticBase_exc cls ?_ | simp only [if_false, bne_self_eq_false, Bool.false_eq_true] | wp_step)
  exact k
theorem kw_new (Fa : ExcBaseFacts B newId initId bmB) (same : ∀ T : String, bm.contains (.type T) = bmB.contains (.type T))
    (cls : h.get? C = some (excClassObj nm q C N bs bm hdct sn sub ab col dd k0 k1 k2 k3 k5 newId))
    (k : R (.ok (.ret (.ref (h.objs.size + 1)))) ⟨(h.push (kdv_tup [])).push (excO C h.objs.size), g, d, t, os⟩) :
    codeAny (model prog w) A (.builtin newId ⟨[.ref C], kw⟩) R ⟨h, g, d, t, os⟩ := by
  have ends := Fa.ends
  have yes : (Value.ref C :: bm).contains (.type B) = true := by rw [List.contains_cons, same, Fa.hasB, Bool.or_true]
  have noA : (Value.ref C :: bm).contains (.type "AttributeError") = false := by rw [List.contains_cons, same, Fa.noAttr]; rfl
  have noN : (Value.ref C :: bm).contains (.type "NameError") = false := by rw [List.contains_cons, same, Fa.noName]; rfl
  refine codeAny_builtinAt Fa.entry ?_
  unfold Builtin.«BaseException.__new__»
  refine wpAt_bind ?_
  show wpAt _ _ _ (stack >>= _) _ _ _
  refine wpAt_bind (wpAt_stack fun p below => wpAt_of_wpAny ?_)
  wp_walk
  refine wpAt_of_wpAny ?_
  rw [Fa.owner]
  repeat (first | with_reducible refine wpAny_loadPart_at cls ?_ | with_reducible refine wpAny_madeHere_exc Fa.canon cls ?_ | (with_reducible refine wpAny_isSubtype_exc cls ?_; first | rw [noN] | rw [noA] | rw [yes]) | wp_step)
  show R _ _
  rw [Heap.size_push]
  exact k
theorem kw_type (Fa : ExcBaseFacts B newId initId bmB) (same : ∀ T : String, bm.contains (.type T) = bmB.contains (.type T)) {fI : Addr} {Q : Fin → Shared → Prop}
    (cls : h.get? C = some (excClassObj nm q C N bs bm hdct sn sub ab col dd k0 k1 k2 k3 k5 newId))
    (ini : Looks (model prog w) h (typeLookup (.ref C) "__init__") (some (.ref fI))) (bnd : ∀ self, Looks (model prog w) h (bindSpecial (.ref fI) self) (.ref fI, [self]))
    (k : codeAny (model prog w) A (.call (.ref fI) ⟨[.ref (h.objs.size + 1)], kw⟩)
      (fun r s' => match r with | .ok (.ret v) => v = .none ∧ Q (.done (.ret (.ref (h.objs.size + 1)))) s' | .ok _ => False | .error e => E e s')
      ⟨(h.push (kdv_tup [])).push (excO C h.objs.size), g, d, t, os⟩) :
    wpAny (model prog w) A (Builtin.«type.__call__» ⟨[.ref C], kw⟩) Q E ⟨h, g, d, t, os⟩ := by
  repeat (first | with_reducible refine wpAny_madeBy_exc cls ?_ | with_reducible refine wpAny_loadPart_at cls ?_ | wp_step)
  refine codeAny_call_builtin_code (Code.quiet_builtin _ Fa.quiet) (kw_new_check Fa same cls ?_)
  refine kw_new Fa same cls ?_
  show wpAny _ _ _ _ _ _
  have keep : ∀ b o, h.get? b = some o → ((h.push (kdv_tup [])).push (excO C h.objs.size)).get? b = some o := fun b o e => Heap.get?_push_of_some _ (Heap.get?_push_of_some _ e)
  have cls1 := keep _ _ cls
  have new : ((h.push (kdv_tup [])).push (excO C h.objs.size)).get? (h.objs.size + 1) = some (excO C h.objs.size) := by heap_get
  have own : (Value.ref C :: bm).contains (.ref C) = true := by simp
  have i1 := ini.keeps keep
  have b1 := (bnd (.ref (h.objs.size + 1))).keeps keep
  unfold isInstance
  repeat (first | (with_reducible refine wpAny_isSubtype_exc cls1 ?_; rw [own]) | with_reducible refine wpAny_loadPart_at new ?_ | wp_step)
  show wpAny _ _ (typeLookup (.ref C) _) _ _ _
  refine i1.at (wpAny_holding (wpAny_bind (b1.at (wpAny_bind (wpAny_call (codeAny_mono k fun r s' z => ?_))))))
  rcases r with e | (v | _ | _ | _) <;> first | exact z | exact z.elim | skip
  obtain ⟨rfl, z⟩ := z
  first
    | exact wpAny_pure (wpAny_pure z)
    | (wp_walk; exact z)
theorem kw_check {M : Model} {Q : Unit → Shared → Prop} (cls : h.get? C = some (excClassObj nm q C N bs bm hdct sn sub ab col dd k0 k1 k2 k3 k5 newId))
    (k : Q () ⟨h, g, d, t, os⟩) : wpAny M A (checkBuiltinCall "type.__call__" ⟨[.ref C], kw⟩) Q E ⟨h, g, d, t, os⟩ := by
  have s1 := tc_sub
  have ty : (⟨h, g, d, t, os⟩ : Shared).TypeIs (.ref C) "type" := ⟨_, cls, rfl⟩
  simp only [checkBuiltinCall, tc_split, tc_kind]
  repeat (any_goals (first | assumption | with_reducible refine wpAny_onRaise ?_ | with_reducible refine wpAny_loadPart_at cls ?_ | with_reducible refine wpAny_map ?_ | wp_step))
theorem kw_call (Fa : ExcBaseFacts B newId initId bmB) (same : ∀ T : String, bm.contains (.type T) = bmB.contains (.type T)) {fI : Addr}
    (cls : h.get? C = some (excClassObj nm q C N bs bm hdct sn sub ab col dd k0 k1 k2 k3 k5 newId))
    (ini : Looks (model prog w) h (typeLookup (.ref C) "__init__") (some (.ref fI))) (bnd : ∀ self, Looks (model prog w) h (bindSpecial (.ref fI) self) (.ref fI, [self]))
    (k : codeAny (model prog w) (A.under (.builtin "type.__call__" ⟨[.ref C], kw⟩)) (.call (.ref fI) ⟨[.ref (h.objs.size + 1)], kw⟩) (InitBack (h.objs.size + 1) R)
      ⟨(h.push (kdv_tup [])).push (excO C h.objs.size), g, d, t, os⟩) :
    codeAny (model prog w) A (.call (.ref C) ⟨[], kw⟩) R ⟨h, g, d, t, os⟩ := by
  have a1 := tc_lookup
  have a2 := tc_bind (.ref C)
  have ty : (⟨h, g, d, t, os⟩ : Shared).TypeIs (.ref C) "type" := ⟨_, cls, rfl⟩
  refine codeAny_of_tree ?_
  show wpAny _ _ (callAny (.ref C) _) _ _ _
  repeat (any_goals (first | assumption | with_reducible refine wpAny_loadPart_at cls ?_ | wp_step))
  refine ⟨rfl, ?_⟩
  refine codeAny_call_builtin_at (Code.quiet_builtin _ (by decide +kernel)) entry_typeCall (kw_check cls (kw_type Fa same cls ini bnd ?_))
  refine codeAny_mono k fun r s' z => ?_
  rcases r with e | (v | _ | _ | _) <;> exact z
end
end Py
set_option Elab.async false
set_option linter.all false
set_option maxRecDepth 100000
set_option maxHeartbeats 4000000
/-! own error classes: a direct subclass of LookupError or of ValueError whose __init__ keeps one value -/
namespace Py
open PySem PySem.W PySem.Calls PyProof.Rows PySem.HandSPX
/-- the built-in class ahead: its own rows, its name for what makes -/
structure BaseF (bm : List Value) (newId : String) : Prop where
  facts : ∃ B initId, ExcBaseFacts B newId initId bm
  pass : ∀ (self : Value) (c : Addr), refuseLoop self "__setattr__" (.ref c :: bm) = pure ()
  ob : bm.contains (.type "object") = true
abbrev veBm : List Value := [.type "ValueError", .type "Exception", .type "BaseException", .type "object"]
abbrev leBm : List Value := [.type "LookupError", .type "Exception", .type "BaseException", .type "object"]
theorem baseV : BaseF veBm "ValueError.__new__" :=
  ⟨⟨_, _, PySem.F.excBase_ValueError⟩, fun self c => (refuseLoop_ref ..).trans (PySem.F.store_ValueError.passes self), by decide +kernel⟩
theorem baseL : BaseF leBm "LookupError.__new__" :=
  ⟨⟨_, _, PySem.F.excBase_LookupError⟩, fun self c => (refuseLoop_ref ..).trans (PySem.F.store_LookupError.passes self), by decide +kernel⟩
section
open Builtin Builtin.ObjectAttr
variable {prog : Program} {w : World} {A : Around} {R : Result → Shared → Prop} {hp : Heap} {g : Array GenState} {d : Drawn} {t : Nat} {os : OsState}
/-- self.name = v, the error having no dict as yet -/
theorem own_store {K : W.Frag} {bm : List Value} {newId : String} {name : Str} {tk : Tok} {v : Value} {x C : Addr} {fv : Array Value} {cd : ClassData} (bf : BaseF bm newId)
    (X : K.In hp) (hx : hp.get? x = some { cls := .ref C, data := .fields fv }) (hcd : W.clsIn K C = some cd) (hm : cd.mro = .ref C :: bm) (hh : cd.hasDict = true) (ha : W.findIn K (.ref C) name = some none)
    (hq : ∀ h' tk' dx, (∀ b o, b ≠ x → hp.get? b = some o → h'.get? b = some o) → hp.objs.size ≤ dx → dx ≠ x → h'.get? x = some { cls := .ref C, dict := some dx, data := .fields fv } →
      h'.Ns1 dx (fun y => if y = name then some v else none) → R (.ok (.ret .none)) ⟨h', g, d, tk', os⟩) :
    codeAny (model prog w) A (.call (.builtin "object.__setattr__") ⟨[.ref x, .str name tk, v], []⟩) R ⟨hp, g, d, t, os⟩ := by
  have inst : W.InstAt hp x { cls := .ref C, data := .fields fv } C none := ⟨hx, rfl, rfl, trivial⟩
  have sf := F.store_object
  have hob : cd.mro.contains (.type "object") = true := by rw [hm, List.contains_cons, bf.ob, Bool.or_true]
  have hne : cd.mro.isEmpty = false := by rw [hm]; rfl
  have hxs : x ≠ hp.objs.size := Nat.ne_of_lt (Heap.lt_size hx)
  have isob : W.Looks (model prog w) hp (isInstance (.ref x) (.type "object")) true :=
    inst.type.andThen (W.looks_mroIn X (by unfold W.mroIn; rw [hcd, Option.bind_some, if_neg (by rw [hne]; decide), hob]))
  refine codeAny_call_builtin sf.slot.plain sf.entry ?_
  refine @W.check_slot (model prog w) _ _ ⟨hp, g, d, t, os⟩ "object.__setattr__" "object" "__setattr__" (.ref x) [.str name tk, v] [] _ sf.kind sf.split isob (sf.args (.ref x) (.str name tk) v) ?_
  have rows : W.Looks (model prog w) hp (mroOf (.ref C)) cd.mro := (W.looks_clsIn X hcd).andThen .now
  have none3 : W.Looks (model prog w) hp (storeTaker? none) none := .now
  have datum : W.Looks (model prog w) hp (classData C) cd := W.looks_clsIn X hcd
  rw [W.osa_eq, refuse_eq]
  refine wpAny_bind (wpAny_bind (inst.type.at (wpAny_bind (rows.at ?_))))
  rw [hm, bf.pass]
  refine wpAny_pure (wpAny_bind (inst.type.at (wpAny_bind ((W.looks_findIn X ha).at (wpAny_bind (none3.at ?_))))))
  show wpAny _ _ (storeInOwnDict (.ref x) (.ref C) (.str name tk) name v false) _ _ _
  obtain ⟨nm, bs, mro, ns, qn, hd, sn, sb, ab, col, del⟩ := cd
  dsimp only at hh
  subst hh
  unfold storeInOwnDict ownDictForStores
  repeat (first | with_reducible refine store_in_new ?_ ?_ | with_reducible refine wpAny_loadPart_at hx ?_ | with_reducible refine datum.at ?_ | wp_step)
  · exact ⟨_, #[], _, (Heap.get?_update_ne _ _ _ _ hxs.symm).trans (Heap.get?_push_at rfl rfl), rfl, fun e he => absurd he (by simp), fun _ => rfl⟩
  · intro h' tk' hn' same
    have hx1 : (hp.push { cls := .type "dict", data := .dict #[] }).get? x = some { cls := .ref C, data := .fields fv } := Heap.get?_push_of_some _ hx
    refine hq h' tk' hp.objs.size (fun b o hb ho => ?_) (Nat.le_refl _) hxs.symm ((same.2 x hxs).trans (Heap.get?_update_self _ hx1 rfl)) hn'
    exact (same.2 b (Nat.ne_of_lt (Heap.lt_size ho))).trans ((Heap.get?_update_ne _ _ _ _ hb).trans (Heap.get?_push_of_some _ ho))
end
/-! the text of such a class -/
def eArgs (at_ : Str) (p1 p2 : Pos) : Arguments := { posonlyargs := [], args := [{ arg := "self", annotation := none, pos := p1 }, { arg := at_, annotation := none, pos := p2 }], vararg := none, kwonlyargs := [], kw_defaults := [], kwarg := none, defaults := [] }
def eBody (at_ : Str) (q1 q2 q3 q4 : Pos) : List Stmt := [.Assign [.Attribute (.Name "self" q1) at_ q2] (.Name at_ q3) q4]
def eScope (at_ : Str) : Scope := { kind := .function, names := [("self", .local), (at_, .local)], isGenerator := false, isCoroutine := false, more := [] }
structure ErrT (K : Frag) (mg : Str → Option Value) (nm at_ : Str) (bm : List Value) (newId : String) (C fI : Addr) : Prop where
  base : BaseF bm newId
  gC : mg nm = some (.ref C)
  cls : ∃ n1 q N bs sn sub ab col dd k0 k1 k2 k3 k5, K.lookup C = some (excClassObj n1 q C N bs bm true sn sub ab col dd k0 k1 k2 k3 k5 newId)
  sa : findIn K (.ref C) "__setattr__" = some (some (.builtin "object.__setattr__"))
  ga : findIn K (.ref C) "__getattribute__" = some (some (.builtin "BaseException.__getattribute__"))
  gg : findIn K (.ref C) "__getattr__" = some none
  noN : findIn K (.ref C) at_ = some none
  iC : findIn K (.ref C) "__init__" = some (some (.ref fI))
  tC : typeIn K (.ref fI) = some (.type "function")
  kC : keepIn K (.ref C) = true
  exC : subIn K (.ref C) (.type "BaseException") = some true
  tyC : typeIn K (.ref C) = some (.type "type")
  hdC : hasDictIn K C = true
  cc : findIn K (.ref C) "__class__" = some (some (.builtin "object.__class__"))
  cg : specialIn K (.builtin "object.__class__") "__get__" = some (some (.builtin "getset_descriptor.__get__"))
  ct : takesIn K (.builtin "object.__class__") = some true
  cm : mroIn K C (.type "object") = some true
  fn : ∃ (oc : Value) (od : Option Addr) (doc pm : Value) (an : Option Addr) (cdv ct : Value) (osl : Array (Option Value)) (p1 p2 q1 q2 q3 q4 : Pos) (qn : Str) (kV : Value),
    K.lookup fI = some ⟨oc, od, .func (fnOf "__init__" qn (eArgs at_ p1 p2) (eBody at_ q1 q2 q3 q4) (eScope at_) .none kV doc pm an cdv ct), osl⟩ ∧ codeIn K cdv qn = true
theorem ld_c {M : Model} {s : Shared} {name : Str} {scope : Scope} {L a : Addr} {cd : Value} {m : Str → Option Value} {x : Str} {pos : Pos} {v : Value} {Q : Value → Shared → Prop} {A : Around} {E : Value → Shared → Prop} (hk : scope.kind = .function) (hn : s.heap.Ns L m) (hv : m x = some v)
    (hl : (envOfC name scope L a cd).kindOf x = some .local) (hd : (x == ("__debug__" : Str)) = false) (h : Q v s) : wpAny M A (eval (.Name x pos) (envOfC name scope L a cd)) Q E s :=
  wpAny_Name (wpAny_loadName_local hk hl hn hv h) hd
/-- what __init__ leaves of a fresh error at x -/
structure ErrEnd (h h' : Heap) (x C : Addr) (at_ : Str) (dx t1 : Addr) (v : Value) : Prop where
  keep : ∀ b o, b ≠ x → h.get? b = some o → h'.get? b = some o
  obj : h'.get? x = some { cls := .ref C, dict := some dx, data := .fields #[.ref t1, .none, .none, .none, .bool false, .none] }
  dbig : h.objs.size ≤ dx
  dne : dx ≠ x
  ns : h'.Ns1 dx (fun y => if y = at_ then some v else none)
/-- an error that was made -/
structure ErrMade (h h' : Heap) (e C : Addr) (at_ : Str) (d : Addr) (v : Value) : Prop where
  keep : ∀ b o, h.get? b = some o → h'.get? b = some o
  new : h.objs.size ≤ e
  obj : ∃ oe vs, h'.get? e = some oe ∧ oe.cls = .ref C ∧ oe.dict = some d ∧ oe.data = .fields vs ∧ vs[1]? = some .none
  dbig : h.objs.size ≤ d
  dne : d ≠ e
  ns : h'.Ns1 d (fun y => if y = at_ then some v else none)
section
variable {prog : Program} {w : World} {A : Around} {E : Value → Shared → Prop} {R : Result → Shared → Prop} {s : Shared} {K : Frag} {mg : Str → Option Value} {C fI : Addr} {nm at_ : Str} {bm : List Value} {newId : String}
theorem err_init (T : ErrT K mg nm at_ bm newId C fI) (hat : at_ = "number" ∨ at_ = "word") {x t0 : Addr} {v : Value} {ar : Args} (har : ar = ⟨[.ref x, v], []⟩ ∨ ar = ⟨[.ref x], [(at_, v)]⟩) (X : K.In s.heap) (hlim : s.heap.NoLimit) (hx : s.heap.get? x = some (excO C t0)) (hroom : A.depth < recursionLimit)
    (hq : ∀ h' tk dx, ErrEnd s.heap h' x C at_ dx t0 v → R (.ok (.ret .none)) { s with heap := h', toks := tk }) :
    codeAny (model prog w) A (.call (.ref fI) ar) R s := by
  have bf := T.base
  have sa := T.sa
  have noN := T.noN
  obtain ⟨oc, od, doc, pm, an, cdv, ct, osl, p1, p2, q1, q2, q3, q4, qn, kV, ho, hcd⟩ := T.fn
  obtain ⟨n1, q, N, bs, sn, sub, ab, col, dd, k0, k1, k2, k3, k5, hC⟩ := T.cls
  clear T
  have hcl : clsIn K C = some { name := n1, bases := bs, mro := .ref C :: bm, ns := N, qualname := q, hasDict := true, slotNames := sn, subclasses := sub, abstract := ab, collection := col, hasDel := false } := by unfold clsIn; rw [hC] <;> rfl
  rcases har with rfl | rfl
  all_goals rcases hat with rfl | rfl
  all_goals
    refine Att.call_fn (binds := [("self", .ref x), (_, v)]) X hlim ho hcd hroom (BindsTo.of_eq (by first | rfl | with_unfolding_all rfl)) (by first | rfl | decide | with_unfolding_all rfl) (fun s1 IC => ?_) rfl rfl rfl
    obtain ⟨h1, tk1, rfl⟩ := IC.toInCall.same
    have k : ∀ b o, s.heap.get? b = some o → h1.get? b = some o := IC.toInCall.keep
    have hn := IC.toInCall.ns
    have X1 : K.In h1 := X.keeps k
    have hx1 := k _ _ hx
    show wpAny _ _ (execs _ _) _ _ _
    refine wpAny_execs_cons (plainObj_wpAny_Assign_Attribute ?_)
    refine ld_c (v := v) rfl hn (by first | rfl | with_unfolding_all rfl | kernel_rfl) (by first | rfl | with_unfolding_all rfl | kernel_rfl) (by decide +kernel) ?_
    refine ld_c (v := .ref x) rfl hn (by first | rfl | with_unfolding_all rfl | kernel_rfl) (by first | rfl | with_unfolding_all rfl | kernel_rfl) (by decide +kernel) ?_
    refine set_plain X1 (ox := excO C t0) (od := none) ⟨hx1, rfl, rfl, trivial⟩ sa ?_
    refine own_store bf X1 hx1 hcl rfl rfl noN fun h3 tk3 dx k3 dn dne hx3 hn3 => ?_
    show wpAny _ _ (execs _ _) _ _ _
    have z : s.heap.objs.size < h1.objs.size := hn.lt
    exact wpAny_execs_nil (hq h3 tk3 dx ⟨fun b o hb e => k3 b o hb (k b o e), hx3, Nat.le_of_lt (Nat.lt_of_lt_of_le z dn), dne, hn3⟩)
theorem err_made (T : ErrT K mg nm at_ bm newId C fI) (hat : at_ = "number" ∨ at_ = "word") {v : Value} (X : K.In s.heap) (hlim : s.heap.NoLimit) (hroom : A.depth + 1 < recursionLimit)
    (hq : ∀ h' tk e d, ErrMade s.heap h' e C at_ d v → R (.ok (.ret (.ref e))) { s with heap := h', toks := tk }) :
    codeAny (model prog w) A (.call (.ref C) ⟨[v], []⟩) R s := by
  obtain ⟨n1, q, N, bs, sn, sub, ab, col, dd, k0, k1, k2, k3, k5, hC⟩ := T.cls
  obtain ⟨B, initId, bfacts⟩ := T.base.facts
  obtain ⟨hp, g, dr, tk, os⟩ := s
  have k : ∀ b o, hp.get? b = some o → ((hp.push (kdv_tup [v])).push (excO C hp.objs.size)).get? b = some o := fun b o e => Heap.get?_push_of_some _ (Heap.get?_push_of_some _ e)
  have hget : ((hp.push (kdv_tup [v])).push (excO C hp.objs.size)).get? (hp.objs.size + 1) = some (excO C hp.objs.size) := by heap_get
  refine call_own bfacts (fun _ => rfl) (X _ _ hC) (looks_findIn X T.iC) (fun self => bind_fn X self T.tC) (by rw [sizeLine_eq]; show 1 ≤ 16777216; decide) ?_
  refine err_init (s := ⟨(hp.push (kdv_tup [v])).push (excO C hp.objs.size), g, dr, tk, os⟩) T hat (.inl rfl) (X.keeps k) (hlim.keeps k) hget (show A.depth + 1 < recursionLimit from hroom) fun h' tk' dx ⟨k', hx, dn, dne, hns⟩ => ?_
  have old : ∀ b o, hp.get? b = some o → h'.get? b = some o := fun b o e => k' b o (Nat.ne_of_lt (Nat.lt_succ_of_lt (Heap.lt_size e))) (k b o e)
  have z : hp.objs.size + 1 + 1 ≤ dx := by
    have q := dn
    first
      | exact q
      | (rw [Heap.size_push, Heap.size_push] at q; exact q)
      | (simpa only [Heap.size_push] using q)
  exact ⟨rfl, hq h' tk' (hp.objs.size + 1) dx ⟨old, Nat.le_succ _, ⟨_, _, hx, rfl, rfl, rfl, rfl⟩, Nat.le_trans (Nat.le_trans (Nat.le_succ _) (Nat.le_succ _)) z, dne, hns⟩⟩
theorem err_madeK (T : ErrT K mg nm at_ bm newId C fI) (hat : at_ = "number" ∨ at_ = "word") {v : Value} (X : K.In s.heap) (hlim : s.heap.NoLimit) (hroom : A.depth + 1 < recursionLimit)
    (hq : ∀ h' tk e d, ErrMade s.heap h' e C at_ d v → R (.ok (.ret (.ref e))) { s with heap := h', toks := tk }) :
    codeAny (model prog w) A (.call (.ref C) ⟨[], [(at_, v)]⟩) R s := by
  obtain ⟨n1, q, N, bs, sn, sub, ab, col, dd, k0, k1, k2, k3, k5, hC⟩ := T.cls
  obtain ⟨B, initId, bfacts⟩ := T.base.facts
  obtain ⟨hp, g, dr, tk, os⟩ := s
  have k : ∀ b o, hp.get? b = some o → ((hp.push (kdv_tup [])).push (excO C hp.objs.size)).get? b = some o := fun b o e => Heap.get?_push_of_some _ (Heap.get?_push_of_some _ e)
  have hget : ((hp.push (kdv_tup [])).push (excO C hp.objs.size)).get? (hp.objs.size + 1) = some (excO C hp.objs.size) := by heap_get
  refine kw_call bfacts (fun _ => rfl) (X _ _ hC) (looks_findIn X T.iC) (fun self => bind_fn X self T.tC) ?_
  refine err_init (s := ⟨(hp.push (kdv_tup [])).push (excO C hp.objs.size), g, dr, tk, os⟩) T hat (.inr rfl) (X.keeps k) (hlim.keeps k) hget (show A.depth + 1 < recursionLimit from hroom) fun h' tk' dx ⟨k', hx, dn, dne, hns⟩ => ?_
  have old : ∀ b o, hp.get? b = some o → h'.get? b = some o := fun b o e => k' b o (Nat.ne_of_lt (Nat.lt_succ_of_lt (Heap.lt_size e))) (k b o e)
  have z : hp.objs.size + 1 + 1 ≤ dx := by
    have q := dn
    first
      | exact q
      | (rw [Heap.size_push, Heap.size_push] at q; exact q)
      | (simpa only [Heap.size_push] using q)
  exact ⟨rfl, hq h' tk' (hp.objs.size + 1) dx ⟨old, Nat.le_succ _, ⟨_, _, hx, rfl, rfl, rfl, rfl⟩, Nat.le_trans (Nat.le_trans (Nat.le_succ _) (Nat.le_succ _)) z, dne, hns⟩⟩
end
end Py
namespace Py
open PySem PySem.Spec PyProof.Rows L2
theorem relO_one {v : V} {v' : Value} {at_ : Str} (r : RelV v v') (f : Str) : RelO (List.lookup f [(at_, v)]) (if f = at_ then some v' else none) := by
  by_cases hw : f = at_
  · subst hw
    rw [if_pos rfl, show List.lookup f [(f, v)] = some v by simp [List.lookup]]
    exact r
  · have qw : (f == at_) = false := by simpa using hw
    rw [if_neg hw, show List.lookup f [(at_, v)] = none by simp [List.lookup, qw]]
    trivial
section
variable {X : Cx} {C fI : Addr} {nm at_ : Str} {bm : List Value} {newId : String}
theorem pmk_err {a : Expr} {p pos : Pos} {k : Nat} (T : ErrT X.K X.mg nm at_ bm newId C fI) (hat : at_ = "number" ∨ at_ = "word") (hr : Room k X.A) (hg : Gl X nm) (hdb : (nm == ("__debug__" : Str)) = false) (hs : isStar a = false) :
    PMk X (.Call (.Name nm p) [a] [] pos) (fun σ H Q => RE X a σ H fun v H1 => ∀ d, H1 d = none → Q (.ref C) (some d) (upd H1 d (.xd [(at_, v)]))) := by
  intro pins s σ H Q I h
  refine wpAny_Call_Name_kw (ld_glob I hg T.gC ?_ hdb)
  have pa : PA X [a] (fun σ H Q => RE X a σ H fun v H1 => Q [v] H1) := pa_cons (RE.pe a) pa_nil (ns_of hs _ _)
  refine PySem.W.callWith_K (h₀ := X.base) I.ok.mod.kin T.kC (thn (pa.run pos pins s σ H (fun vs H1 => ∃ v, vs = [v] ∧ ∀ d, H1 d = none → Q (.ref C) (some d) (upd H1 d (.xd [(at_, v)]))) I (RE.mono h fun v H1 q => ⟨v, rfl, q⟩)) fun us s1 hh => ?_) (ns_of hs _ _) rfl
  obtain ⟨vs, H1, I1, r1, v, ev, q1⟩ := hh
  subst ev
  refine ⟨I1.kIn, ?_⟩
  cases r1 with
  | cons rv rn =>
    rename_i v' us'
    cases rn
    show wpAny _ _ (call (.ref C) [v']) _ _ _
    have hlim := I1.nolimit
    obtain ⟨hp, g, dr, tk, os⟩ := s1
    refine wpAny_call (err_made T hat I1.kIn hlim (by have := hr.dp; omega) fun h' tk' e d M => ?_)
    show MkP X pins σ Q (.ref e) ⟨h', g, dr, tk', os⟩
    obtain ⟨oe, fv, hoe, hc, hd, hdat, h1⟩ := M.obj
    have hns := M.ns
    obtain ⟨G', g1, g2⟩ := restrict h' fun b => decide (b ≠ e)
    have gk : ∀ b, b ≠ e → G'.get? b = h'.get? b := fun b hb => g1 b (decide_eq_true hb)
    have ge : G'.get? e = none := g2 e (by simp)
    have old : ∀ b o, hp.get? b = some o → G'.get? b = some o := fun b o q => (gk b (Nat.ne_of_lt (Nat.lt_of_lt_of_le (Heap.lt_size q) M.new))).trans (M.keep b o q)
    have ob : ObjOk X.prog X.w (upd H1 d (.xd [(at_, v)])) G' d (.xd [(at_, v)]) :=
      ⟨_, hns.at (fun o q => (gk d M.dne).trans q), fun f => relO_one rv f⟩
    have J : Inv X pins σ (upd H1 d (.xd [(at_, v)])) ⟨G', g, dr, tk', os⟩ := I1.laid (t' := tk') old M.dbig ob
    refine ⟨e, oe, fv, ⟨G', g, dr, tk', os⟩, _, .ref C, some d, rfl, J, fun b o q => ?_, ge, hoe, ⟨hc, hd⟩, hdat, h1, ?_, rfl, I1.bare, raises_own T.exC T.tyC, q1 d (I1.hok.fresh M.dbig)⟩
    · by_cases hb : b = e
      · rw [hb, show G'.get? e = none from ge] at q; cases q
      · exact (gk b hb).symm.trans q
    · rw [upd_ne (Ne.symm M.dne)]
      exact I1.hok.fresh M.new
/-- n.at, n the error that the suite holds -/
theorem pe_errAt {a : Addr} {oe : Obj} {d : Option Addr} {pn : List (Addr × Obj)} {e : Expr} {te : TE} {pos : Pos} (T : ErrT X.K X.mg nm at_ bm newId C fI) (hz : Zc (.ref C) d oe) (hf : ∃ vs, oe.data = .fields vs) (he : PE (X.suite a ((a, oe) :: pn)) e te)
    (hb : attributeBase e at_ X.env (eval e X.env) = eval e X.env) :
    PE (X.suite a ((a, oe) :: pn)) (.Attribute e at_ pos) (fun σ H Q => te σ H fun x H1 => x = .ref a ∧ ∃ (dd : Addr) (v : V), d = some dd ∧ H1 dd = some (.xd [(at_, v)]) ∧ Q v H1) := by
  refine ⟨fun pins s σ H Q I h => ?_⟩
  refine attr_of hb (thn (he.run pins s σ H _ I h) fun u s1 hh => ?_)
  obtain ⟨x, H1, I1, rx, ex, dd, v, ed, ea, q⟩ := hh
  subst ex
  obtain rfl : u = Value.ref a := rx
  subst ed
  obtain ⟨ha, _⟩ := I1.pin (a, oe) (List.mem_append_left _ List.mem_cons_self)
  obtain ⟨vs, hd⟩ := hf
  have hx : ObjOk X.prog X.w H1 s1.heap dd (.xd [(at_, v)]) := I1.hok dd _ ea
  obtain ⟨mA, hns, hr⟩ := hx
  obtain ⟨od, ho, hl⟩ := lookIn_ns hns
  obtain ⟨u, hu, ru⟩ := RelO.some_of (v := v) (o := mA at_) (by rw [← show List.lookup at_ [(at_, v)] = some v by simp [List.lookup]]; exact hr at_)
  have J : PySem.W.InstAt s1.heap a oe C (some od) := ⟨ha, hz.1, by unfold PySem.W.notCls; rw [hd] <;> rfl, by rw [hz.2]; exact ho⟩
  exact HandSPX.exc_get I1.kIn J T.ga T.gg T.exC (PySem.W.findObj_own T.hdC T.noN rfl (by rw [hl, hu])) (handed_of ru) ⟨v, H1, I1.tok _, ru, q⟩
/-- what isinstance looks at -/
structure ErrA (K : PySem.W.Frag) (C : Addr) : Prop where
  is : (PySem.W.clsIn K C).isSome = true
  ga : PySem.W.findIn K (.ref C) "__getattribute__" = some (some (.builtin "BaseException.__getattribute__"))
  gg : PySem.W.findIn K (.ref C) "__getattr__" = some none
  exC : PySem.W.subIn K (.ref C) (.type "BaseException") = some true
  cc : PySem.W.findIn K (.ref C) "__class__" = some (some (.builtin "object.__class__"))
  cg : PySem.W.specialIn K (.builtin "object.__class__") "__get__" = some (some (.builtin "getset_descriptor.__get__"))
  ct : PySem.W.takesIn K (.builtin "object.__class__") = some true
  cm : PySem.W.mroIn K C (.type "object") = some true
theorem ErrT.look {K : PySem.W.Frag} {mg : Str → Option Value} (T : ErrT K mg nm at_ bm newId C fI) : ErrA K C := by
  refine ⟨?_, T.ga, T.gg, T.exC, T.cc, T.cg, T.ct, T.cm⟩
  obtain ⟨n1, q, N, bs, sn, sub, ab, col, dd, k0, k1, k2, k3, k5, hC⟩ := T.cls
  unfold PySem.W.clsIn; rw [hC] <;> rfl
/-- an own error class without value -/
structure ErrN (K : PySem.W.Frag) (mg : Str → Option Value) (nm : Str) (bm : List Value) (newId : String) (C : Addr) : Prop where
  base : BaseF bm newId
  gC : mg nm = some (.ref C)
  ex : PySem.W.excIn K C bm newId = true
  kC : PySem.W.keepIn K (.ref C) = true
  tyC : PySem.W.typeIn K (.ref C) = some (.type "type")
  look : ErrA K C
theorem pmk_none {p pos : Pos} (T : ErrN X.K X.mg nm bm newId C) (hg : Gl X nm) (hdb : (nm == ("__debug__" : Str)) = false) : PMk X (.Call (.Name nm p) [] [] pos) (fun _ H Q => Q (.ref C) none H) := by
  intro pins s σ H Q I h
  obtain ⟨B, ini, F⟩ := T.base.facts
  refine wpAny_Call_Name_kw (ld_glob I hg T.gC ?_ hdb)
  refine PySem.W.callWith_K0 I.kIn T.kC ?_
  show wpAny _ _ (call (.ref C) []) _ _ _
  obtain ⟨_, N, _, _, _, _, _, _, _, _, _, _, _, _, _, _, mN, hC, hN, hni, tl⟩ := exc_obj I.kIn T.ex
  exact wpAny_call_exc_subT F tl hC hN hni (fun h' e hm => mk_of I hm (raises_own T.look.exC T.tyC) h (I.hok.gone hm.new)) (Nat.zero_le _)
/-- isinstance(n, T), T a built-in class -/
theorem call_isiE {a : Addr} {oe : Obj} {d : Option Addr} {pn : List (Addr × Obj)} (T : ErrA X.K C) (hz : Zc (.ref C) d oe) (hf : ∃ vs, oe.data = .fields vs) (hdd : ∀ dd, d = some dd → True) :
    CallR (X.suite a ((a, oe) :: pn)) (.builtin "isinstance") (fun xs H Q => ∃ (c : String) (b : Bool), xs = [.ref a, .ty c] ∧ PySem.W.kitOne X.K (.ref C) (.type c) = some b ∧ (∀ dd, d = some dd → ∃ fs, H dd = some (.xd fs)) ∧ Q (.bl b) H) := by
  intro pins s σ H xs us Q I r h
  obtain ⟨c, b, rfl, e, hd, q⟩ := h
  obtain ⟨u1, u2, rfl, r1, r2⟩ := vals2 r
  cases (show u1 = Value.ref a from r1)
  cases (show u2 = Value.type c from r2)
  obtain ⟨ha, _⟩ := I.pin (a, oe) (List.mem_append_left _ List.mem_cons_self)
  obtain ⟨vs, hdt⟩ := hf
  have J : ∃ od, PySem.W.InstAt s.heap a oe C od := by
    cases ed : d with
    | none => exact ⟨none, ha, hz.1, by unfold PySem.W.notCls; rw [hdt] <;> rfl, by rw [hz.2, ed]; trivial⟩
    | some dd =>
      obtain ⟨fs, ef⟩ := hd dd ed
      have hx : ObjOk X.prog X.w H s.heap dd (.xd fs) := I.hok dd _ ef
      obtain ⟨mA, hns, _⟩ := hx
      obtain ⟨od, ho, _⟩ := lookIn_ns hns
      exact ⟨some od, ha, hz.1, by unfold PySem.W.notCls; rw [hdt] <;> rfl, by rw [hz.2, ed]; exact ho⟩
  obtain ⟨od, J⟩ := J
  exact PySem.W.kia_one (PySem.W.kitx_exc T.is T.ga T.gg T.exC T.cc T.cg T.ct T.cm) I.kIn J e (fun z => nomatch z) fun tk => ⟨.bl b, H, I.tok tk, rfl, q⟩
end
end Py
set_option Elab.async false
set_option linter.all false
set_option maxRecDepth 100000
set_option maxHeartbeats 4000000
/-! errors as values: made, asked for what they keep, asked for their class -/
namespace Py
open PySem PySem.Spec PyProof.Rows L2
section
variable {X : Cx} {C fI : Addr} {nm at_ : Str} {bm : List Value} {newId : String}
theorem erx_ok {P : Program} {w : World} {H : Hp} {h : Heap} {a : Addr} {cls : Value} {d : Option Addr} {oe : Obj} (e1 : h.get? a = some oe) (e2 : oe.cls = cls ∧ oe.dict = d) (e3 : ∃ vs, oe.data = .fields vs) : ObjOk P w H h a (ErX cls d a) :=
  ⟨⟨oe, e1, e2, e3⟩, ⟨oe, e1⟩, fun h1 h2 ⟨o, z1, z2, z3⟩ k => ⟨o, k _ z1, z2, z3⟩⟩
theorem keep_made {pins : List (Addr × Obj)} {σ : L2.St} {H : Hp} {hp h' : Heap} {g : Array GenState} {dr : Drawn} {tk tk' : Nat} {os : OsState} {v : V} {v' : Value} {e d : Addr} {Q : VK} (I : Inv X pins σ H ⟨hp, g, dr, tk, os⟩) (rv : RelV v v')
    (M : ErrMade hp h' e C at_ d v') (q : ∀ e d, H e = none → H d = none → e ≠ d → Q (.ref e) (upd (upd H d (.xd [(at_, v)])) e (ErX (.ref C) (some d) e))) : EP X pins σ Q (.ref e) ⟨h', g, dr, tk', os⟩ := by
  obtain ⟨oe, fv, hoe, hc, hd, hdat, h1⟩ := M.obj
  have hns := M.ns
  obtain ⟨G', g1, g2⟩ := restrict h' fun b => decide (b ≠ e)
  have gk : ∀ b, b ≠ e → G'.get? b = h'.get? b := fun b hb => g1 b (decide_eq_true hb)
  have ge : G'.get? e = none := g2 e (by simp)
  have old : ∀ b o, hp.get? b = some o → G'.get? b = some o := fun b o q => (gk b (Nat.ne_of_lt (Nat.lt_of_lt_of_le (Heap.lt_size q) M.new))).trans (M.keep b o q)
  have He : H e = none := I.hok.fresh M.new
  have Hd : H d = none := I.hok.fresh M.dbig
  have ob : ObjOk X.prog X.w (upd H d (.xd [(at_, v)])) G' d (.xd [(at_, v)]) := ⟨_, hns.at (fun o q => (gk d M.dne).trans q), fun f => relO_one rv f⟩
  have J : Inv X pins σ (upd H d (.xd [(at_, v)])) ⟨G', g, dr, tk', os⟩ := I.laid (t' := tk') old M.dbig ob
  have J2 := J.laidN (h' := h') (a := e) (o := ErX (.ref C) (some d) e) (t' := tk') (fun b o q => by
    by_cases hb : b = e
    · rw [hb, show G'.get? e = none from ge] at q; cases q
    · exact (gk b hb).symm.trans q) ge (by rw [upd_ne (Ne.symm M.dne)]; exact He) (erx_ok hoe ⟨hc, hd⟩ ⟨_, hdat⟩)
  exact ⟨.ref e, _, J2, rfl, q e d He Hd (Ne.symm M.dne)⟩
/-- X(e) -/
theorem pe_mk1 {a : Expr} {p pos : Pos} {k : Nat} (T : ErrT X.K X.mg nm at_ bm newId C fI) (hat : at_ = "number" ∨ at_ = "word") (hr : Room k X.A) (hg : Gl X nm) (hdb : (nm == ("__debug__" : Str)) = false) (hs : isStar a = false) :
    PE X (.Call (.Name nm p) [a] [] pos) (fun σ H Q => RE X a σ H fun v H1 => ∀ e d, H1 e = none → H1 d = none → e ≠ d → Q (.ref e) (upd (upd H1 d (.xd [(at_, v)])) e (ErX (.ref C) (some d) e))) := by
  refine ⟨fun pins s σ H Q I h => ?_⟩
  refine wpAny_Call_Name_kw (ld_glob I hg T.gC ?_ hdb)
  have pa : PA X [a] (fun σ H Q => RE X a σ H fun v H1 => Q [v] H1) := pa_cons (RE.pe a) pa_nil (ns_of hs _ _)
  refine PySem.W.callWith_K (h₀ := X.base) I.ok.mod.kin T.kC (thn (pa.run pos pins s σ H (fun vs H1 => ∃ v, vs = [v] ∧ ∀ e d, H1 e = none → H1 d = none → e ≠ d → Q (.ref e) (upd (upd H1 d (.xd [(at_, v)])) e (ErX (.ref C) (some d) e))) I (RE.mono h fun v H1 q => ⟨v, rfl, q⟩)) fun us s1 hh => ?_) (ns_of hs _ _) rfl
  obtain ⟨vs, H1, I1, r1, v, ev, q1⟩ := hh
  subst ev
  refine ⟨I1.kIn, ?_⟩
  cases r1 with
  | cons rv rn =>
    rename_i v' us'
    cases rn
    show wpAny _ _ (call (.ref C) [v']) _ _ _
    have hlim := I1.nolimit
    obtain ⟨hp, g, dr, tk, os⟩ := s1
    exact wpAny_call (err_made T hat I1.kIn hlim (by have := hr.dp; omega) fun h' tk' e d M => keep_made I1 rv M q1)
/-- X(number=e) -/
theorem pe_mkK {a : Expr} {p pos kp : Pos} {k : Nat} (T : ErrT X.K X.mg nm at_ bm newId C fI) (hat : at_ = "number" ∨ at_ = "word") (hr : Room k X.A) (hg : Gl X nm) (hdb : (nm == ("__debug__" : Str)) = false) :
    PE X (.Call (.Name nm p) [] [⟨some at_, a, kp⟩] pos) (fun σ H Q => RE X a σ H fun v H1 => ∀ e d, H1 e = none → H1 d = none → e ≠ d → Q (.ref e) (upd (upd H1 d (.xd [(at_, v)])) e (ErX (.ref C) (some d) e))) := by
  show PE X (.Call (.Name nm p) [] (kwsOf [(at_, a, kp)]) pos) _
  refine ⟨fun pins s σ H Q I h => ?_⟩
  refine wpAny_Call_Name_kw (ld_glob I hg T.gC ?_ hdb)
  have pk : PK X [⟨some at_, a, kp⟩] (fun σ H Q => RE X a σ H fun v H1 => Q [v] H1) := pk_cons (RE.pe a) pk_nil
  have pkr : RK X (kwsOf [(at_, a, kp)]) σ H fun vs H1 => ∃ v, vs = [v] ∧ ∀ e d, H1 e = none → H1 d = none → e ≠ d → Q (.ref e) (upd (upd H1 d (.xd [(at_, v)])) e (ErX (.ref C) (some d) e)) := RK.of pk (RE.mono h fun v H1 q => ⟨v, rfl, q⟩)
  refine PySem.W.callWith_KW0 (h₀ := X.base) I.ok.mod.kin T.kC (kw_all pos X.env [(at_, a, kp)]) (thn (pkr pos pins s I) fun us s1 hh => ?_) (by rw [kw_any pos X.env [(at_, a, kp)]]; rfl)
  obtain ⟨vs, H1, I1, r1, v, ev, q1⟩ := hh
  subst ev
  refine ⟨I1.kIn, ?_⟩
  rw [kw_filter pos X.env [(at_, a, kp)]]
  cases r1 with
  | cons rv rn =>
    rename_i v' us'
    cases rn
    show wpAny _ _ (call (.ref C) [] [(at_, v')]) _ _ _
    have hlim := I1.nolimit
    obtain ⟨hp, g, dr, tk, os⟩ := s1
    exact wpAny_call (err_madeK T hat I1.kIn hlim (by have := hr.dp; omega) fun h' tk' e d M => keep_made I1 rv M q1)
/-- X() -/
theorem pe_mk0 {p pos : Pos} (T : ErrN X.K X.mg nm bm newId C) (hg : Gl X nm) (hdb : (nm == ("__debug__" : Str)) = false) :
    PE X (.Call (.Name nm p) [] [] pos) (fun _ H Q => ∀ e, H e = none → Q (.ref e) (upd H e (ErX (.ref C) none e))) := by
  refine ⟨fun pins s σ H Q I h => ?_⟩
  obtain ⟨B, ini, F⟩ := T.base.facts
  refine wpAny_Call_Name_kw (ld_glob I hg T.gC ?_ hdb)
  refine PySem.W.callWith_K0 I.kIn T.kC ?_
  show wpAny _ _ (call (.ref C) []) _ _ _
  obtain ⟨_, N, _, _, _, _, _, _, _, _, _, _, _, _, _, _, mN, hC, hN, hni, tl⟩ := exc_obj I.kIn T.ex
  obtain ⟨hp, g, dr, tk, os⟩ := s
  refine wpAny_call_exc_subT F tl hC hN hni (fun h' e hm => ?_) (Nat.zero_le _)
  obtain ⟨t, h1, _, _⟩ := hm.there
  exact ⟨.ref e, _, I.laidN (t' := tk) hm.keeps hm.new (I.hok.gone hm.new) (erx_ok h1 ⟨rfl, rfl⟩ ⟨_, rfl⟩), rfl, h e (I.hok.gone hm.new)⟩
/-- n.at -/
theorem pe_attV {e : Expr} {te : TE} {pos : Pos} (he : PE X e te) (hb : attributeBase e at_ X.env (eval e X.env) = eval e X.env) :
    PE X (.Attribute e at_ pos) (fun σ H Q => te σ H fun x H1 => ∃ (nm : Str) (bm : List Value) (newId : String) (C fI a dd : Addr) (v : V), ErrT X.K X.mg nm at_ bm newId C fI ∧ x = .ref a ∧ H1 a = some (ErX (.ref C) (some dd) a) ∧ H1 dd = some (.xd [(at_, v)]) ∧ Q v H1) := by
  refine ⟨fun pins s σ H Q I h => ?_⟩
  refine attr_of hb (thn (he.run pins s σ H _ I h) fun u s1 hh => ?_)
  obtain ⟨x, H1, I1, rx, nm, bm, newId, C, fI, a, dd, v, T, ex, ha, ea, q⟩ := hh
  subst ex
  obtain rfl : u = Value.ref a := rx
  have hoa : ObjOk X.prog X.w H1 s1.heap a (ErX (.ref C) (some dd) a) := I1.hok a _ ha
  obtain ⟨⟨oe, h1, h2, vs, h3⟩, _⟩ := hoa
  have hx : ObjOk X.prog X.w H1 s1.heap dd (.xd [(at_, v)]) := I1.hok dd _ ea
  obtain ⟨mA, hns, hr⟩ := hx
  obtain ⟨od, ho, hl⟩ := lookIn_ns hns
  obtain ⟨u, hu, ru⟩ := RelO.some_of (v := v) (o := mA at_) (by rw [← show List.lookup at_ [(at_, v)] = some v by simp [List.lookup]]; exact hr at_)
  have J : PySem.W.InstAt s1.heap a oe C (some od) := ⟨h1, h2.1, by unfold PySem.W.notCls; rw [h3] <;> rfl, by rw [h2.2]; exact ho⟩
  exact HandSPX.exc_get I1.kIn J T.ga T.gg T.exC (PySem.W.findObj_own T.hdC T.noN rfl (by rw [hl, hu])) (handed_of ru) ⟨v, H1, I1.tok _, ru, q⟩
def ErAt (H : Hp) (C a : Addr) (d : Option Addr) : Prop := H a = some (ErX (.ref C) d a) ∧ ∀ dd, d = some dd → ∃ fs, H dd = some (.xd fs)
theorem ErAt.inst {pins : List (Addr × Obj)} {σ : L2.St} {H : Hp} {s : Shared} {a : Addr} {d : Option Addr} (I : Inv X pins σ H s) (h : ErAt H C a d) : ∃ oe od, PySem.W.InstAt s.heap a oe C od := by
  have hoa : ObjOk X.prog X.w H s.heap a (ErX (.ref C) d a) := I.hok a _ h.1
  obtain ⟨⟨oe, h1, h2, vs, h3⟩, _⟩ := hoa
  cases d with
  | none => exact ⟨oe, none, h1, h2.1, by unfold PySem.W.notCls; rw [h3] <;> rfl, by rw [h2.2]; trivial⟩
  | some dd =>
    obtain ⟨fs, ef⟩ := h.2 dd rfl
    have hx : ObjOk X.prog X.w H s.heap dd (.xd fs) := I.hok dd _ ef
    obtain ⟨mA, hns, _⟩ := hx
    obtain ⟨od, ho, _⟩ := lookIn_ns hns
    exact ⟨oe, some od, h1, h2.1, by unfold PySem.W.notCls; rw [h3] <;> rfl, by rw [h2.2]; exact ho⟩
/-- isinstance(n, T) -/
theorem call_isiV : CallR X (.builtin "isinstance") (fun xs H Q => ∃ (C : Addr) (a : Addr) (d : Option Addr) (c : V) (u : Value) (b : Bool), ErrA X.K C ∧ xs = [.ref a, c] ∧ ClsV c u ∧ ErAt H C a d ∧ PySem.W.kitOne X.K (.ref C) u = some b ∧ Q (.bl b) H) := by
  intro pins s σ H xs us Q I r h
  obtain ⟨C, a, d, c, u, b, T, rfl, k, hE, e, q⟩ := h
  obtain ⟨u1, u2, rfl, r1, r2⟩ := vals2 r
  cases (show u1 = Value.ref a from r1)
  cases k.eq r2
  obtain ⟨oe, od, J⟩ := hE.inst I
  exact PySem.W.kia_one (PySem.W.kitx_exc T.is T.ga T.gg T.exC T.cc T.cg T.ct T.cm) I.kIn J e (fun z => nomatch z) fun tk => ⟨.bl b, H, I.tok tk, rfl, q⟩
/-- isinstance(n, (T, ..)) -/
theorem call_isiVT : CallR X (.builtin "isinstance") (fun xs H Q => ∃ (C a tp : Addr) (d : Option Addr) (cs : List V) (ws : List Value) (b : Bool), ErrA X.K C ∧ xs = [.ref a, .ref tp] ∧ H tp = some (.tup cs) ∧ Paired ClsV cs ws ∧ ErAt H C a d ∧ PySem.W.kitAny X.K (.ref C) ws = some b ∧ Q (.bl b) H) := by
  intro pins s σ H xs us Q I r h
  obtain ⟨C, a, tp, d, cs, ws, b, T, rfl, hT, k, hE, e, q⟩ := h
  obtain ⟨u1, u2, rfl, r1, r2⟩ := vals2 r
  cases (show u1 = Value.ref a from r1)
  cases (show u2 = Value.ref tp from r2)
  obtain ⟨oe, od, J⟩ := hE.inst I
  have hx : ObjOk X.prog X.w H s.heap tp (.tup cs) := I.hok tp _ hT
  obtain ⟨_, its, rv, o, z1, z2, z4, z3⟩ := hx
  have e3 := ClsV.all k rv
  subst e3
  obtain ⟨oc, od', dt, sl⟩ := o
  simp only at z2 z3
  subst z2 z3
  exact PySem.W.kia_tup (PySem.W.kitx_exc T.is T.ga T.gg T.exC T.cc T.cg T.ct T.cm) I.kIn J z1 e (fun z => nomatch z) fun tk => ⟨.bl b, H, I.tok tk, rfl, q⟩
end
/-- the error classes of a program: the name, LookupError above or ValueError, what is kept -/
abbrev ErS := List (Str × Bool × Option Str)
structure ErF (K : PySem.W.Frag) (mg : Str → Option Value) (A : Around) (er : ErS) : Prop where
  one : ∀ x le a, (x, le, some a) ∈ er → ∃ (bm : List Value) (newId : String) (fI : Addr) (r : Nat), ErrT K mg x a bm newId (clsK K x) fI ∧ (a = "number" ∨ a = "word") ∧ Room r A ∧ (x == ("__debug__" : Str)) = false
  none : ∀ x le, (x, le, none) ∈ er → ∃ (bm : List Value) (newId : String), ErrN K mg x bm newId (clsK K x) ∧ (x == ("__debug__" : Str)) = false
  kit : ∀ x le a, (x, le, a) ∈ er → PySem.W.kitOne K (.ref (clsK K x)) (.type "LookupError") = some le ∧ PySem.W.kitOne K (.ref (clsK K x)) (.type "ValueError") = some (!le) ∧
    PySem.W.kitOne K (.ref (clsK K x)) (.type "KeyError") = some false ∧ PySem.W.kitOne K (.ref (clsK K x)) (.type "IndexError") = some false
  own : ∀ x le a y le' a', (x, le, a) ∈ er → (y, le', a') ∈ er → PySem.W.kitOne K (.ref (clsK K x)) (.ref (clsK K y)) = some (decide (x = y))
  free : er ≠ [] → mg (Str.ofString "LookupError") = Option.none ∧ mg (Str.ofString "ValueError") = Option.none ∧ mg (Str.ofString "KeyError") = Option.none ∧ mg (Str.ofString "IndexError") = Option.none
theorem ErF.look {K : PySem.W.Frag} {mg : Str → Option Value} {A : Around} {er : ErS} (F : ErF K mg A er) {x : Str} {le : Bool} {a : Option Str} (h : (x, le, a) ∈ er) : ErrA K (clsK K x) ∧ mg x = some (.ref (clsK K x)) ∧ (x == ("__debug__" : Str)) = false := by
  cases a with
  | some a =>
    obtain ⟨_, _, _, _, T, _, _, hd⟩ := F.one x le a h
    exact ⟨T.look, T.gC, hd⟩
  | none =>
    obtain ⟨_, _, T, hd⟩ := F.none x le h
    exact ⟨T.look, T.gC, hd⟩
section
variable {G : Exi} {X : Cx} {cf : CF} {own : List Nat} {er : ErS}
theorem se_mk0 {x : Str} {le : Bool} {p pos : Pos} (F : ErF X.K X.mg X.A er) (h : (x, le, none) ∈ er) (hg : Gl X x) : SE G X cf own (.mk0 x) (.Call (.Name x p) [] [] pos) := by
  obtain ⟨bm, newId, T, hd⟩ := F.none x le h
  intro B T0 O η σ H Q R s
  simp only [ev] at s
  refine RE.of (pe_mk0 T hg hd) fun e he => ?_
  refine s O (.ref e) _ (fun _ z => z) (R.same (Same.new he)) (Fr.new he) ?_
  simp only [Da]
  exact ⟨e, [], rfl, R.notO he, .inl ⟨rfl, upd_same⟩, DaL.nil⟩
theorem mk1_end {x at_ : Str} {B : Base} {T0 : List (Addr × D)} {O O1 : Addr → Prop} {η1 : Env} {σ : L2.St} {H H1 : Hp} {Q : VK} {d0 : D} {v : V} (s : Post X own B T0 O σ H Q (.er x at_ [d0], η1)) (i1 : ∀ a, O1 a → O a) (R1 : Rep X.K own B T0 O1 η1 σ H1) (f1 : Fr O H H1) (dv : Da X.K H1 O1 d0 v)
    (e d : Addr) (he : H1 e = none) (hd : H1 d = none) (ne : e ≠ d) : Q (.ref e) (upd (upd H1 d (.xd [(at_, v)])) e (ErX (.ref (clsK X.K x)) (some d) e)) := by
  have he' : upd H1 d (.xd [(at_, v)]) e = none := by rw [upd_ne ne]; exact he
  have S1 : L2.Same H1 (upd (upd H1 d (.xd [(at_, v)])) e (ErX (.ref (clsK X.K x)) (some d) e)) := fun a o q => Same.new he' a o (Same.new hd a o q)
  refine s O1 (.ref e) _ i1 (R1.same S1) (f1.trans i1 (Same.fr S1)) ?_
  simp only [Da]
  refine ⟨e, [v], rfl, R1.notO he, .inr ⟨d, v, rfl, upd_same, ?_, R1.notO hd⟩, DaL.cons (dv.fr (Same.fr S1) fun _ z => z) DaL.nil⟩
  rw [upd_ne (Ne.symm ne)]; exact upd_same
theorem se_mk1 {x at_ : Str} {le : Bool} {a : E} {ea : Expr} {p pos : Pos} (F : ErF X.K X.mg X.A er) (h : (x, le, some at_) ∈ er) (hg : Gl X x) (ha : SE G X cf own a ea) (hs : isStar ea = false) : SE G X cf own (.mk1 x at_ a) (.Call (.Name x p) [ea] [] pos) := by
  obtain ⟨bm, newId, fI, r, T, hat, hr, hd⟩ := F.one x le at_ h
  intro B T0 O η σ H Q R s
  simp only [ev] at s
  refine RE.of (pe_mk1 T hat hr hg hd hs) ?_
  exact one' ha R s fun d0 η1 O1 v H1 s1 i1 R1 f1 dv e d he hd ne => mk1_end s1 i1 R1 f1 dv e d he hd ne
theorem se_mkK {x at_ : Str} {le : Bool} {a : E} {ea : Expr} {p pos kp : Pos} (F : ErF X.K X.mg X.A er) (h : (x, le, some at_) ∈ er) (hg : Gl X x) (ha : SE G X cf own a ea) : SE G X cf own (.mk1 x at_ a) (.Call (.Name x p) [] [⟨some at_, ea, kp⟩] pos) := by
  obtain ⟨bm, newId, fI, r, T, hat, hr, hd⟩ := F.one x le at_ h
  intro B T0 O η σ H Q R s
  simp only [ev] at s
  refine RE.of (pe_mkK T hat hr hg hd) ?_
  exact one' ha R s fun d0 η1 O1 v H1 s1 i1 R1 f1 dv e d he hd ne => mk1_end s1 i1 R1 f1 dv e d he hd ne
theorem attD_ok {ns : List Str} {at_ : Str} {d z : D} (h : attD ns at_ d = .ok z) : ∃ nm, d = .er nm at_ [z] ∧ nm ∈ ns := by
  unfold attD at h
  split at h
  · split at h
    · rename_i c
      obtain ⟨c1, rfl⟩ := c
      cases h
      exact ⟨_, rfl, c1⟩
    · cases h
  · cases h
theorem er_at {K : PySem.W.Frag} {H : Hp} {O : Addr → Prop} {nm at_ : Str} {ds : List D} {v : V} (h : Da K H O (.er nm at_ ds) v) : ∃ a xs, v = .ref a ∧ ErH H O (clsK K nm) at_ a xs ∧ DaL K H O ds xs := by
  simp only [Da] at h
  obtain ⟨a, xs, e, _, h1, h2⟩ := h
  exact ⟨a, xs, e, h1, h2⟩
theorem se_att {ns : List Str} {at_ : Str} {a : E} {ea : Expr} {pos : Pos} (F : ErF X.K X.mg X.A er) (h : ∀ x ∈ ns, ∃ le, (x, le, some at_) ∈ er) (ha : SE G X cf own a ea) (hb : attributeBase ea at_ X.env (eval ea X.env) = eval ea X.env) : SE G X cf own (.att ns at_ a) (.Attribute ea at_ pos) := by
  intro B T0 O η σ H Q R s
  simp only [ev] at s
  refine RE.of (pe_attV (RE.pe ea) hb) ?_
  refine one' ha R s fun d0 η1 O1 v H1 s1 i1 R1 f1 dv => ?_
  obtain ⟨z, e1, s1⟩ := okS s1
  obtain ⟨nm, rfl, hn⟩ := attD_ok e1
  obtain ⟨le, hm⟩ := h nm hn
  obtain ⟨bm, newId, fI, r, T, hat, hr, hd⟩ := F.one nm le at_ hm
  obtain ⟨p, xs, rfl, hE, hl⟩ := er_at dv
  rcases hE with ⟨rfl, _⟩ | ⟨dx, x, rfl, h1, h2, _⟩
  · have := hl.length; cases this
  · refine ⟨nm, bm, newId, _, fI, p, dx, x, T, rfl, h1, h2, s1 O1 _ H1 i1 R1 f1 ?_⟩
    simp only [DaL] at hl
    obtain ⟨u, us, e, hu, _⟩ := hl
    cases e
    exact hu
def etB (nm : Str) (le : Bool) : ET → Bool
  | .own n => decide (nm = n)
  | .le => le
  | .ve => !le
  | .ki => false
theorem isED_ok {ns : List (Str × Bool)} {t : ET} {d : D} {b : Bool} (h : isED ns t d = .ok b) : ∃ nm at_ ds le, d = .er nm at_ ds ∧ ns.lookup nm = some le ∧ b = etB nm le t := by
  cases d with
  | er nm at_ ds =>
    simp only [isED] at h
    cases e : ns.lookup nm with
    | none => rw [e] at h; cases h
    | some le =>
      rw [e] at h
      refine ⟨nm, at_, ds, le, rfl, e, ?_⟩
      rw [← R.ok.inj h]
      cases t <;> rfl
  | _ => cases h
theorem lookup_mem {α β : Type} [BEq α] [LawfulBEq α] {l : List (α × β)} {x : α} {y : β} (h : l.lookup x = some y) : (x, y) ∈ l := by
  induction l with
  | nil => cases h
  | cons p l ih =>
    obtain ⟨u, v⟩ := p
    rw [List.lookup_cons] at h
    split at h
    · rename_i c
      cases h
      have : x = u := by simpa using c
      subst this
      exact List.mem_cons_self ..
    · exact List.mem_cons_of_mem _ (ih h)
theorem ErH.at {H : Hp} {O : Addr → Prop} {C a : Addr} {at_ : Str} {xs : List V} (h : ErH H O C at_ a xs) : ∃ d, ErAt H C a d := by
  rcases h with ⟨_, h⟩ | ⟨dx, x, _, h1, h2, _⟩
  · exact ⟨none, h, fun _ z => nomatch z⟩
  · exact ⟨some dx, h1, fun dd z => by cases z; exact ⟨_, h2⟩⟩
theorem boot_LE0 : bootBuiltins (Str.ofString "LookupError") = some (.type "LookupError") := by first | rfl | decide +kernel | kernel_rfl
theorem boot_VE0 : bootBuiltins (Str.ofString "ValueError") = some (.type "ValueError") := by first | rfl | decide +kernel | kernel_rfl
theorem boot_KE0 : bootBuiltins (Str.ofString "KeyError") = some (.type "KeyError") := by first | rfl | decide +kernel | kernel_rfl
theorem boot_IE0 : bootBuiltins (Str.ofString "IndexError") = some (.type "IndexError") := by first | rfl | decide +kernel | kernel_rfl
/-- how a class is written -/
def etC (er : ErS) (t : ET) (gl : Str → Bool) (e : Expr) : Bool := match t, e with
  | .own n, .Name x _ => decide (x = n) && gl x && (er.any fun z => decide (z.1 = x))
  | .le, .Name x _ => decide (x = Str.ofString "LookupError") && gl x
  | .ve, .Name x _ => decide (x = Str.ofString "ValueError") && gl x
  | .ki, .Tuple [.Name x _, .Name y _] _ _ => decide (x = Str.ofString "KeyError") && gl x && (decide (y = Str.ofString "IndexError") && gl y)
  | _, _ => false
theorem se_isE {ns : List (Str × Bool)} {t : ET} {a : E} {ea et : Expr} {p pos : Pos} {gl : Str → Bool} (F : ErF X.K X.mg X.A er) (ne : er ≠ []) (h : ∀ x le, (x, le) ∈ ns → ∃ a, (x, le, a) ∈ er) (hgl : ∀ x, gl x = true → Gl X x) (ht : etC er t gl et = true) (ha : SE G X cf own a ea) (hs : isStar ea = false)
    (hg : Gl X "isinstance") (hm : X.mg "isinstance" = none) : SE G X cf own (.isE ns a t) (.Call (.Name "isinstance" p) [ea, et] [] pos) := by
  intro B T0 O η σ H Q R s
  simp only [ev] at s
  obtain ⟨m1, m2, m3, m4⟩ := F.free ne
  have fin : ∀ (u : Value) (c : V) (q : PE X et (tC c)) (k : ClsV c u), (∀ nm at_ ds le b, ns.lookup nm = some le → isED ns t (.er nm at_ ds) = .ok b → PySem.W.kitOne X.K (.ref (clsK X.K nm)) u = some b) → RE X (.Call (.Name "isinstance" p) [ea, et] [] pos) σ H Q := by
    intro u c q k hk
    refine RE.of (pe_callB call_isiV hg hm boot_isinstance (pa_cons (RE.pe ea) (pa_cons q pa_nil (by cases et <;> first | rfl | (unfold etC at ht; cases t <;> cases ht))) (ns_of hs _ _)) (by decide) (by decide) (ns_of hs _ _) (by cases et <;> first | rfl | (unfold etC at ht; cases t <;> cases ht))) ?_
    refine one' ha R s fun d0 η1 O1 v H1 s1 i1 R1 f1 dv => ?_
    obtain ⟨b, e1, s1⟩ := okS s1
    obtain ⟨nm, at_, ds, le, rfl, hl, hb⟩ := isED_ok e1
    obtain ⟨a', hm'⟩ := h nm le (lookup_mem hl)
    obtain ⟨A1, _, _⟩ := F.look hm'
    obtain ⟨pp, xs, rfl, hE, _⟩ := er_at dv
    obtain ⟨d, hE⟩ := hE.at
    exact ⟨_, pp, d, c, u, b, A1, rfl, k, hE, hk nm at_ ds le b hl e1, s1 O1 _ H1 i1 R1 f1 Da.bl⟩
  have kt : ∀ nm le, ns.lookup nm = some le → ∃ a, (nm, le, a) ∈ er := fun nm le z => h nm le (lookup_mem z)
  unfold etC at ht
  split at ht
  · rename_i n x xp
    simp only [Bool.and_eq_true, decide_eq_true_eq, List.any_eq_true] at ht
    obtain ⟨⟨rfl, hgx⟩, ⟨y, le', a'⟩, hy, hy2⟩ := ht
    have hy2 : y = x := hy2
    subst hy2
    obtain ⟨_, mx, dx⟩ := F.look hy
    refine fin (.ref (clsK X.K y)) (.ref (clsK X.K y)) (pe_glob (hgl _ hgx) mx rfl dx) (.own _) fun nm at_ ds le b hl e1 => ?_
    obtain ⟨_, _, _, le2, e0, e2, e3⟩ := isED_ok e1
    cases e0
    obtain ⟨a2, h2⟩ := kt nm le hl
    rw [e3]
    exact F.own _ _ _ _ _ _ h2 hy
  · rename_i x xp
    simp only [Bool.and_eq_true, decide_eq_true_eq] at ht
    obtain ⟨rfl, hgx⟩ := ht
    refine fin (.type "LookupError") (.ty "LookupError") (pe_bltn (hgl _ hgx) m1 boot_LE0 rfl (by decide) (by decide)) (.ty _) fun nm at_ ds le b hl e1 => ?_
    obtain ⟨_, _, _, le2, e0, e2, e3⟩ := isED_ok e1
    cases e0
    rw [hl] at e2; cases e2
    obtain ⟨a2, h2⟩ := kt nm le hl
    rw [e3]
    exact (F.kit _ _ _ h2).1
  · rename_i x xp
    simp only [Bool.and_eq_true, decide_eq_true_eq] at ht
    obtain ⟨rfl, hgx⟩ := ht
    refine fin (.type "ValueError") (.ty "ValueError") (pe_bltn (hgl _ hgx) m2 boot_VE0 rfl (by decide) (by decide)) (.ty _) fun nm at_ ds le b hl e1 => ?_
    obtain ⟨_, _, _, le2, e0, e2, e3⟩ := isED_ok e1
    cases e0
    rw [hl] at e2; cases e2
    obtain ⟨a2, h2⟩ := kt nm le hl
    rw [e3]
    exact (F.kit _ _ _ h2).2.1
  · rename_i x xp y yp k tp
    simp only [Bool.and_eq_true, decide_eq_true_eq] at ht
    obtain ⟨⟨rfl, hgx⟩, rfl, hgy⟩ := ht
    have pk : PA X [.Name (Str.ofString "KeyError") xp, .Name (Str.ofString "IndexError") yp] (fun _ H Q => Q [V.ty "KeyError", V.ty "IndexError"] H) :=
      pa_cons (pe_bltn (v := .ty "KeyError") (hgl _ hgx) m3 boot_KE0 rfl (by decide) (by decide)) (pa_cons (pe_bltn (v := .ty "IndexError") (hgl _ hgy) m4 boot_IE0 rfl (by decide) (by decide)) pa_nil rfl) rfl
    refine RE.of (pe_callB call_isiVT hg hm boot_isinstance (pa_cons (RE.pe ea) (pa_cons (pe_tup pk) pa_nil rfl) (ns_of hs _ _)) (by decide) (by decide) (ns_of hs _ _) rfl) ?_
    refine one' ha R s fun d0 η1 O1 v H1 s1 i1 R1 f1 dv => ?_
    obtain ⟨b, e1, s1⟩ := okS s1
    obtain ⟨nm, at_, ds, le, rfl, hl, hb⟩ := isED_ok e1
    obtain ⟨a', hm'⟩ := h nm le (lookup_mem hl)
    obtain ⟨A1, _, _⟩ := F.look hm'
    obtain ⟨_, _, k3, k4⟩ := F.kit _ _ _ hm'
    obtain ⟨pp, xs, rfl, hE, _⟩ := er_at dv
    obtain ⟨d, hE⟩ := hE.at
    refine ⟨by rw [← LIM_line]; decide, fun tq htq => ?_⟩
    have hb : b = false := hb
    subst hb
    refine ⟨_, pp, tq, d, [V.ty "KeyError", V.ty "IndexError"], [.type "KeyError", .type "IndexError"], false, A1, rfl, upd_same, ?_, ?_, ?_, s1 O1 _ _ i1 (R1.same (Same.new htq)) (f1.trans i1 (Fr.new htq)) Da.bl⟩
    · exact .cons (.ty _) (.cons (.ty _) .nil)
    · refine ⟨?_, fun dd z => ?_⟩
      · rw [upd_ne (ne_of_none hE.1 htq)]; exact hE.1
      · obtain ⟨fs, z⟩ := hE.2 dd z
        exact ⟨fs, by rw [upd_ne (ne_of_none z htq)]; exact z⟩
    · exact kitAny_cons k3 (fun _ => kitAny_cons k4 (fun _ => rfl) (fun z => nomatch z)) (fun z => nomatch z)
  · cases ht
end
end Py
set_option Elab.async false
set_option linter.all false
set_option maxRecDepth 100000
set_option maxHeartbeats 4000000
/-! the check that an expression of mine is one of the program's -/
namespace Py
open PySem PySem.Spec PyProof.Rows L2
structure Ck where
  N : List Str
  own : List Nat
  sc : Scope
  fn : Option Scope
  fs : List (Str × Nat)
  ds : List (Bool × Bool × Nat)
  kw : List (Nat × List Str × List Nat)
  er : ErS := []
def bltL : List Str := ["len", "tuple", "list", "sorted", "int", "abs", "all", "any", "sum", "str", "set", "range", "isinstance", "min", "max", "zip", "enumerate", "bool"]
def Ck.nm (c : Ck) (i : Nat) (x : Str) : Bool := decide (c.N[i]? = some x) && (match c.sc.names.lookup x with
  | some .local => true
  | some .cell => true
  | some .free => true
  | _ => false) && !(x == ("__debug__" : Str)) && !(x == ("__classdict__" : Str))
def Ck.gl (c : Ck) (x : Str) : Bool := decide (c.sc.names.lookup x = some .globalImplicit)
def Ck.blt (c : Ck) (x : Str) : Bool := c.gl x && decide (x ∈ bltL)
def Ck.fnB (c : Ck) (x : Str) : Bool := match c.fn with
  | none => true
  | some s => s.names.lookup x == some .cell
inductive Md where | e | t | f | s deriving DecidableEq
/-- an operand: a place, or an expression -/
def opdC (q : E) (c : Ck) (e : Expr) (r : Bool) : Bool := match q with
  | .p i => (match e with
    | .Name x _ => c.nm i x && decide (i ∈ c.own)
    | _ => false)
  | _ => r
def notP : E → Bool
  | .p _ => false
  | _ => true
def opC (o : Bop) (op : Operator) : Bool := match o, op with
  | .add, .Add => true
  | .sub, .Sub => true
  | .mul, .Mult => true
  | .fdiv, .FloorDiv => true
  | .mod, .Mod => true
  | .pow, .Pow => true
  | _, _ => false
def copC (o : Cop) (op : CmpOp) : Bool := match o, op with
  | .eq, .Eq => true
  | .ne, .NotEq => true
  | .lt, .Lt => true
  | .le, .LtE => true
  | .gt, .Gt => true
  | .ge, .GtE => true
  | .in_, .In => true
  | .notin, .NotIn => true
  | _, _ => false
theorem opC_eq {o : Bop} {op : Operator} (h : opC o op = true) : op = opOf o := by cases o <;> cases op <;> first | rfl | cases h
theorem copC_eq {o : Cop} {op : CmpOp} (h : copC o op = true) : op = copOf o := by cases o <;> cases op <;> first | rfl | cases h
/-- a test by its value -/
def plainT : Expr → Bool
  | .UnaryOp .Not _ _ => false
  | .BoolOp .. => false
  | .IfExp .. => false
  | .Compare .. => false
  | _ => true
theorem plainT_ok {e : Expr} (h : plainT e = true) (env : PySem.Env) : ∀ whole, isTrue e env whole = (do let v ← whole; standAt e.pos; holding [v] (truthy v)) := by
  intro whole
  cases e with
  | UnaryOp op a p => cases op <;> first | rfl | cases h
  | BoolOp op es p => cases h
  | IfExp a b c p => cases h
  | Compare a b c p => cases h
  | _ => rfl
def constC (d : D) (e : Expr) : Bool := match d, e with
  | .int i, .Constant (.int j) _ _ => decide (i = j)
  | .bl i, .Constant (.bool j) _ _ => i == j
  | .non, .Constant .none _ _ => true
  | .str i, .Constant (.str j) _ _ => decide (i = j)
  | _, _ => false
section
variable {G : Exi} {X : Cx} {cf : CF} {own : List Nat}
theorem const_ok {d : D} {e : Expr} (h : constC d e = true) : SE G X cf own (.k d) e := by
  unfold constC at h
  split at h
  · have := of_decide_eq_true h; subst this; exact se_k pe_int fun _ _ _ => Da.int
  · rename_i i j _ _
    have : i = j := by simpa using h
    subst this; exact se_k pe_bl fun _ _ _ => Da.bl
  · exact se_k pe_non fun _ _ _ => Da.non
  · have := of_decide_eq_true h; subst this; exact se_k pe_str fun _ _ _ => Da.str
  · cases h
/-- what stands behind a name of an own function -/
structure CallOk (G : Exi) (X : Cx) (cf : CF) (c : Ck) (f : Nat) (x : Str) : Prop where
  ex : ∃ (k : Nat) (fa : Addr) (fd : FuncData) (ps : List Str), Room k X.A ∧ X.mg x = some (.ref fa) ∧ PySem.W.keepIn X.K (.ref fa) = true ∧ Binds X.K fd ps [] ∧ (x == ("__debug__" : Str)) = false ∧
    (∀ mu fr np, c.ds[f]? = some (mu, fr, np) → if mu = true then FnOk X.prog X.w X.K X.mg X.base (L2.CX X.prog X.w) k fa fd ps (SpM G X.K cf f np) else FnOk X.prog X.w X.K X.mg X.base (L2.CX X.prog X.w) k fa fd ps (SpN G X.K cf fr f np)) ∧
    ∀ ks ord, (f, ks, ord) ∈ c.kw → KwB X.K fd ps ks ord
structure Good (G : Exi) (c : Ck) (cf : CF) (X : Cx) : Prop where
  N : X.N = c.N
  nd : X.N.Nodup
  sc : X.env.scope = c.sc
  calm : X.calm = true
  fn : ∀ x, c.fnB x = true → X.fn x = true
  un : X.A.units + 65 < cLine
  blt : ∀ x ∈ bltL, X.mg x = none
  call : ∀ x f, (x, f) ∈ c.fs → CallOk G X cf c f x
  ef : ErF X.K X.mg X.A c.er
def Ck.blk (c : Ck) (scope : Scope) : Ck := { c with sc := relS scope c.sc, fn := some scope }
theorem Good.blk {c : Ck} (g : Good G c cf X) (scope : Scope) (s : Shared) (H : Hp) (C : Addr) (cl : List (Str × Addr)) (fp : List Addr) : Good G (c.blk scope) cf (X.blk s H scope (compEnvC scope cl C X.env) fp) where
  N := g.N
  nd := g.nd
  sc := by
    show relS scope X.env.scope = relS scope c.sc
    rw [g.sc]
  calm := g.calm
  fn := fun x h => h
  un := g.un
  blt := g.blt
  call := fun x f h => ⟨(g.call x f h).ex⟩
  ef := g.ef
theorem Good.name {c : Ck} (g : Good G c cf X) {i : Nat} {x : Str} (h : c.nm i x = true) : X.N[i]? = some x ∧ Vis X.env.scope x ∧ (x == ("__debug__" : Str)) = false ∧ (x == ("__classdict__" : Str)) = false := by
  unfold Ck.nm at h
  simp only [Bool.and_eq_true, decide_eq_true_eq, Bool.not_eq_true'] at h
  obtain ⟨⟨⟨h1, h2⟩, h3⟩, h4⟩ := h
  refine ⟨g.N ▸ h1, ?_, h3, h4⟩
  show X.env.scope.names.lookup x = _ ∨ X.env.scope.names.lookup x = _ ∨ X.env.scope.names.lookup x = _
  rw [g.sc]
  split at h2
  · exact .inl (by assumption)
  · exact .inr (.inl (by assumption))
  · exact .inr (.inr (by assumption))
  · cases h2
theorem Good.bltn {c : Ck} (g : Good G c cf X) {x : Str} (h : c.blt x = true) : Gl X x ∧ X.mg x = none := by
  unfold Ck.blt Ck.gl at h
  simp only [Bool.and_eq_true, decide_eq_true_eq] at h
  refine ⟨?_, g.blt x h.2⟩
  show X.env.scope.names.lookup x = _
  rw [g.sc]; exact h.1
theorem Good.glo {c : Ck} (g : Good G c cf X) {x : Str} (h : c.gl x = true) : Gl X x := by
  unfold Ck.gl at h
  have h := of_decide_eq_true h
  show X.env.scope.names.lookup x = _
  rw [g.sc]; exact h
theorem Good.opd {c : Ck} (g : Good G c cf X) {q : E} {e : Expr} {r : Bool} (h : opdC q c e r = true) (hr : r = true → SE G X cf c.own q e) : SO G X cf c.own q e := by
  by_cases n : ∃ i, q = .p i
  · obtain ⟨i, rfl⟩ := n
    unfold opdC at h
    dsimp only at h
    split at h
    · rename_i x p
      simp only [Bool.and_eq_true, decide_eq_true_eq] at h
      obtain ⟨h1, h2, h3, h4⟩ := g.name h.1
      exact so_p h1 h2 h3 h4 h.2
    · cases h
  · have n' : ∀ i, q ≠ .p i := fun i z => n ⟨i, z⟩
    have h : r = true := by
      unfold opdC at h
      cases q <;> first | exact h | exact absurd rfl (n' _)
    exact (hr h).so n'
end
/-! targets -/
mutual
def tgC (c : Ck) : Tg → Expr → Bool
  | .name i, e => match e with
    | .Name x _ => decide (c.N[i]? = some x) && (match c.sc.names.lookup x with
      | some .local => true
      | some .cell => c.fnB x
      | _ => false) && decide (i ∉ c.own)
    | _ => false
  | .tup ts, e => match e with
    | .Tuple es _ _ => tgsC c ts es
    | _ => false
def tgsC (c : Ck) : List Tg → List Expr → Bool
  | [], es => es.isEmpty
  | t :: ts, es => match es with
    | e :: r => tgC c t e && tgsC c ts r
    | [] => false
end
section
variable {G : Exi} {X : Cx} {cf : CF}
mutual
theorem tg_ok {c : Ck} (g : Good G c cf X) : ∀ (t : Tg) (e : Expr), tgC c t e = true → TgR X c.own t e
  | .name i, e, h => by
    simp only [tgC] at h
    split at h
    · rename_i x p
      simp only [Bool.and_eq_true, decide_eq_true_eq] at h
      obtain ⟨⟨h1, h2⟩, h3⟩ := h
      simp only [TgR]
      split at h2
      · rename_i z
        refine ⟨x, p, rfl, g.N ▸ h1, .inl ?_, .inr ?_, h3⟩ <;> rw [g.sc] <;> exact z
      · rename_i z
        refine ⟨x, p, rfl, g.N ▸ h1, .inr ?_, .inl (g.fn x h2), h3⟩
        rw [g.sc]; exact z
      · cases h2
    · cases h
  | .tup ts, e, h => by
    simp only [tgC] at h
    split at h
    · rename_i es k p
      simp only [TgR]
      exact ⟨es, k, p, rfl, tgs_ok g ts es h⟩
    · cases h
theorem tgs_ok {c : Ck} (g : Good G c cf X) : ∀ (ts : List Tg) (es : List Expr), tgsC c ts es = true → TgRs X c.own ts es
  | [], es, h => by
    simp only [tgsC] at h
    simp only [TgRs]
    exact List.isEmpty_iff.mp h
  | t :: ts, es, h => by
    simp only [tgsC] at h
    split at h
    · rename_i e r
      simp only [Bool.and_eq_true] at h
      simp only [TgRs]
      exact ⟨e, r, rfl, tg_ok g t e h.1, tgs_ok g ts r h.2⟩
    · cases h
end
end
end Py
set_option Elab.async false
set_option linter.all false
set_option maxRecDepth 100000
set_option maxHeartbeats 4000000
namespace Py
open PySem PySem.Spec PyProof.Rows L2
def notRg : E → Bool
  | .rg1 _ => false
  | _ => true
def isNo : E → Bool
  | .no => true
  | _ => false
/-- the places of a target with their names -/
def ownOf (N : List Str) (is : List Nat) : List (Str × Nat) := is.map fun i => ((N[i]?).getD (Str.ofString ""), i)
def isSet : Expr → Bool
  | .Set .. => true
  | _ => false
/-- zip and enumerate want a target of parts -/
def srcT (q : E) (tg : Expr) : Bool := match q with
  | .zip _ _ => (match tg with
    | .Tuple .. => true
    | _ => false)
  | .enum _ => (match tg with
    | .Tuple .. => true
    | _ => false)
  | _ => true
def placeC (as : List E) : Bool := as.all fun a => match a with
  | .p i => decide (i ≠ 0)
  | _ => true
def callC (c : Ck) (f : Nat) (x : Str) (mu : Bool) (n : Nat) : Bool := c.gl x && decide ((x, f) ∈ c.fs) && (match c.ds[f]? with
  | some (m, _, np) => (m == mu) && decide (np = n)
  | none => false)
def kwU : List Keyword → Option KwL
  | [] => some []
  | k :: ks => match k with
    | ⟨some n, e, p⟩ => (kwU ks).map ((n, e, p) :: ·)
    | ⟨none, _, _⟩ => none
def tysC (c : Ck) : List Ty → List Expr → Bool
  | [], es => es.isEmpty
  | t :: ts, es => match es with
    | .Name x _ :: r => decide (x = tyStr t) && c.blt (tyStr t) && tysC c ts r
    | _ => false
/-- it gives a list whenever it gives something -/
def isLst : E → Bool
  | .lst _ => true
  | .lc _ _ _ _ => true
  | .lc2 _ _ _ _ _ _ _ => true
  | .f1 .list _ => true
  | .f1 .sorted _ => true
  | .f1 .sset _ => true
  | _ => false
def c_k (d : D)  (m : Md) (c : Ck) (e : Expr) : Bool := constC d e && (match m with
    | .e => true
    | .t => plainT e
    | _ => false)
def c_v (i : Nat)  (m : Md) (c : Ck) (e : Expr) : Bool := (match e with
    | .Name x _ => c.nm i x && decide (i ∉ c.own) && (match m with
      | .f => false
      | _ => true)
    | _ => false)
def c_mv (i : Nat)  (m : Md) (c : Ck) (e : Expr) : Bool := (match e with
    | .Name x _ => c.nm i x && decide (i ∈ c.own) && decide (i ≠ 0) && (match m with
      | .e => true
      | _ => false)
    | _ => false)
def c_p (i : Nat)  (m : Md) (c : Ck) (e : Expr) : Bool := (match e with
    | .Name x _ => c.nm i x && decide (i ∈ c.own) && (match m with
      | .t => true
      | .s => decide (i ≠ 0)
      | _ => false)
    | _ => false)
def c_tup (qs : List E) (r_qs : Ck → List Expr → Bool) (m : Md) (c : Ck) (e : Expr) : Bool := (match e with
    | .Tuple es _ _ => r_qs c es && decide (qs.length ≤ 1000000) && (match m with
      | .f => false
      | _ => true)
    | _ => false)
def c_lst (qs : List E) (r_qs : Ck → List Expr → Bool) (m : Md) (c : Ck) (e : Expr) : Bool := (match e with
    | .List es _ => r_qs c es && decide (qs.length ≤ 1000000)
    | _ => false)
def c_bin (o : Bop) (a : E) (b : E) (r_a : Md → Ck → Expr → Bool) (r_b : Md → Ck → Expr → Bool) (m : Md) (c : Ck) (e : Expr) : Bool := (match e with
    | .BinOp ea op eb _ => opC o op && opdC a c ea (r_a .e c ea) && opdC b c eb (r_b .e c eb)
    | _ => false)
def c_neg (a : E) (r_a : Md → Ck → Expr → Bool) (m : Md) (c : Ck) (e : Expr) : Bool := (match e with
    | .UnaryOp .USub ea _ => r_a .e c ea && (match m with
      | .e => true
      | .t => true
      | _ => false)
    | _ => false)
def c_cmp (o : Cop) (a : E) (b : E) (r_a : Md → Ck → Expr → Bool) (r_b : Md → Ck → Expr → Bool) (m : Md) (c : Ck) (e : Expr) : Bool := (match e with
    | .Compare ea [op] [eb] _ => copC o op && opdC a c ea (r_a .e c ea) && opdC b c eb (r_b .e c eb) && !(behindInMarks op eb) && (match m with
      | .e => true
      | .t => true
      | _ => false)
    | _ => false)
def c_isn (a : E) (r_a : Md → Ck → Expr → Bool) (m : Md) (c : Ck) (e : Expr) : Bool := (match e with
    | .Compare ea [.Is] [.Constant .none _ _] _ => opdC a c ea (r_a .e c ea) && (match m with
      | .e => true
      | .t => true
      | _ => false)
    | _ => false)
def c_notn (a : E) (r_a : Md → Ck → Expr → Bool) (m : Md) (c : Ck) (e : Expr) : Bool := (match e with
    | .Compare ea [.IsNot] [.Constant .none _ _] _ => opdC a c ea (r_a .e c ea) && (match m with
      | .e => true
      | .t => true
      | _ => false)
    | _ => false)
def c_chain (o : Cop) (o' : Cop) (a : E) (b : E) (d : E) (r_a : Md → Ck → Expr → Bool) (r_b : Md → Ck → Expr → Bool) (r_d : Md → Ck → Expr → Bool) (m : Md) (c : Ck) (e : Expr) : Bool := (match e with
    | .Compare ea [op, op'] [eb, ed] _ => copC o op && copC o' op' && r_a .e c ea && r_b .e c eb && r_d .e c ed && !(lastMarks [op, op'] [eb, ed]) && (match m with
      | .e => true
      | .t => true
      | _ => false)
    | _ => false)
def c_and (a : E) (b : E) (r_a : Md → Ck → Expr → Bool) (r_b : Md → Ck → Expr → Bool) (m : Md) (c : Ck) (e : Expr) : Bool := (match e, m with
    | .BoolOp .And (ea :: eb :: rest) pos, .e => r_a .e c ea && (match rest with
      | [] => r_b .e c eb
      | _ => r_b .e c (.BoolOp .And (eb :: rest) pos))
    | .BoolOp .And (ea :: eb :: rest) pos, .t => notP a && notP b && r_a .t c ea && (match rest with
      | [] => r_b .t c eb
      | _ => r_b .t c (.BoolOp .And (eb :: rest) pos))
    | _, _ => false)
def c_or (a : E) (b : E) (r_a : Md → Ck → Expr → Bool) (r_b : Md → Ck → Expr → Bool) (m : Md) (c : Ck) (e : Expr) : Bool := (match e, m with
    | .BoolOp .Or (ea :: eb :: rest) pos, .e => r_a .e c ea && (match rest with
      | [] => r_b .e c eb
      | _ => r_b .e c (.BoolOp .Or (eb :: rest) pos))
    | .BoolOp .Or (ea :: eb :: rest) pos, .t => notP a && notP b && r_a .t c ea && (match rest with
      | [] => r_b .t c eb
      | _ => r_b .t c (.BoolOp .Or (eb :: rest) pos))
    | .BoolOp .Or [ea, eb] pos, .f => isLst a && r_a .f c ea && r_b .f c eb
    | _, _ => false)
def c_not (a : E) (r_a : Md → Ck → Expr → Bool) (m : Md) (c : Ck) (e : Expr) : Bool := (match e, m with
    | .UnaryOp .Not ea _, .e => opdC a c ea (r_a .e c ea)
    | .UnaryOp .Not ea _, .t => r_a .t c ea
    | _, _ => false)
def c_ife (t : E) (a : E) (b : E) (r_t : Md → Ck → Expr → Bool) (r_a : Md → Ck → Expr → Bool) (r_b : Md → Ck → Expr → Bool) (m : Md) (c : Ck) (e : Expr) : Bool := (match e, m with
    | .IfExp et ea eb _, .e => r_t .t c et && r_a .e c ea && r_b .e c eb
    | .IfExp et ea eb _, .s => r_t .t c et && r_a .e c ea && r_b .e c eb
    | _, _ => false)
def c_ix (a : E) (i : E) (r_a : Md → Ck → Expr → Bool) (r_i : Md → Ck → Expr → Bool) (m : Md) (c : Ck) (e : Expr) : Bool := (match e with
    | .Subscript ea ei _ => opdC a c ea (r_a .e c ea) && r_i .e c ei && !(isSlice ei) && (match m with
      | .f => false
      | _ => true)
    | _ => false)
def c_sl (a : E) (lo : E) (hi : E) (r_a : Md → Ck → Expr → Bool) (r_lo : Md → Ck → Expr → Bool) (r_hi : Md → Ck → Expr → Bool) (m : Md) (c : Ck) (e : Expr) : Bool := (match e with
    | .Subscript ea (.Slice elo ehi none _) _ => opdC a c ea (r_a .e c ea) && (match elo with
      | none => isNo lo
      | some el => !(isNo lo) && r_lo .e c el) && (match ehi with
      | none => isNo hi
      | some eh => !(isNo hi) && r_hi .e c eh)
    | _ => false)
def c_rev (a : E) (r_a : Md → Ck → Expr → Bool) (m : Md) (c : Ck) (e : Expr) : Bool := (match e with
    | .Subscript ea (.Slice none none (some (.UnaryOp .USub (.Constant (.int 1) _ _) _)) _) _ => opdC a c ea (r_a .e c ea) && (match m with
      | .f => false
      | _ => true)
    | _ => false)
def c_f1p (f : F1) (a : E) (r_a : Md → Ck → Expr → Bool) (m : Md) (c : Ck) (e : Expr) : Bool := match e with
  | .Call (.Name x _) [ea] [] _ => decide (x = f1Name f) && c.blt x && opdC a c ea (r_a .e c ea) && notRg a && !(isStar ea) && (match m with
    | .f => decide (f = .list) || decide (f = .sorted)
    | _ => true)
  | _ => false
/-- list(range(n)), tuple(range(n)) -/
def c_rgl (f : F1) (a : E) (r_a : Md → Ck → Expr → Bool) (m : Md) (c : Ck) (e : Expr) : Bool := match e with
  | .Call (.Name x _) [ea] [] _ => decide (x = f1Name f) && c.blt x && (decide (f = .list) || decide (f = .tuple)) && !(notRg a) && r_a .s c ea && (match m with
    | .f => false
    | _ => true)
  | _ => false
def c_f1 (f : F1) (a : E) (r_a : Md → Ck → Expr → Bool) (m : Md) (c : Ck) (e : Expr) : Bool := (match f with
    | .sset => (match e with
      | .Call (.Name x _) [.Call (.Name y _) [ea] [] _] [] _ => decide (x = Str.ofString "sorted") && decide (y = Str.ofString "set") && c.blt x && c.blt y && opdC a c ea (r_a .e c ea) && notRg a && !(isStar ea)
      | _ => false)
    | .lset => (match e with
      | .Call (.Name x _) [.Call (.Name y _) [ea] [] _] [] _ => decide (x = Str.ofString "len") && decide (y = Str.ofString "set") && c.blt x && c.blt y && opdC a c ea (r_a .e c ea) && notRg a && !(isStar ea) && decide (m = .e)
      | _ => false)
    | f => c_f1p f a r_a m c e || c_rgl f a r_a m c e)
def c_f2 (f : F2) (a : E) (b : E) (r_a : Md → Ck → Expr → Bool) (r_b : Md → Ck → Expr → Bool) (m : Md) (c : Ck) (e : Expr) : Bool := (match e with
    | .Call (.Name x _) [ea, eb] [] _ => (match f with
      | .min => decide (x = Str.ofString "min")
      | .max => decide (x = Str.ofString "max")
      | .gcd => false) && c.blt x && r_a .e c ea && r_b .e c eb && !(isStar ea) && !(isStar eb) && decide (m = .e)
    | _ => false)
def c_isi (a : E) (ts : List Ty) (r_a : Md → Ck → Expr → Bool) (m : Md) (c : Ck) (e : Expr) : Bool := (match e with
    | .Call (.Name x _) [ea, et] [] _ => decide (x = Str.ofString "isinstance") && c.blt x && opdC a c ea (r_a .e c ea) && !(isStar ea) && decide (ts.length ≤ 1000000) && (match et with
      | .Tuple es _ _ => tysC c ts es
      | .Name y _ => tysC c ts [et] && decide (ts.length = 1)
      | _ => false) && (match m with
      | .e => true
      | .t => true
      | _ => false)
    | _ => false)
def c_call (f : Nat) (mu : Bool) (as : List E) (r_as : Ck → List Expr → Bool) (m : Md) (c : Ck) (e : Expr) : Bool := (match e with
    | .Call (.Name x _) es [] _ => callC c f x mu as.length && r_as c es && (es.all fun z => !(isStar z)) && (match mu with
      | false => placeC as
      | true => (match as with
        | .p i :: r => placeC r && !(r.any fun z => match z with
          | .p j => decide (i = j)
          | _ => false)
        | _ => false)) && (match m with
      | .f => false
      | _ => true)
    | _ => false)
def c_callk (f : Nat) (mu : Bool) (ord : List Nat) (as : List E) (r_as : Ck → List Expr → Bool) (m : Md) (c : Ck) (e : Expr) : Bool := (match e with
    | .Call (.Name x _) [] kws _ => (match kwU kws with
      | some l => !mu && callC c f x false ord.length && decide ((f, l.map (·.1), ord) ∈ c.kw) && r_as c (l.map (·.2.1)) && decide (as.length = l.length) && placeC as && (match m with
        | .f => false
        | _ => true)
      | none => false)
    | _ => false)
def c_callb (f : Nat) (g : Nat) (as : List E) (r_as : Ck → List Expr → Bool) (m : Md) (c : Ck) (e : Expr) : Bool := (match e with
    | .Call (.Name x _) [.Call (.Name y _) es [] _] [] _ => callC c f x true 1 && callC c g y false as.length && (match c.ds[g]? with
      | some (_, fr, _) => fr
      | none => false) && r_as c es && (es.all fun z => !(isStar z)) && !(es.isEmpty) && placeC as && decide (m = .e)
    | _ => false)
def c_rg1 (a : E) (r_a : Md → Ck → Expr → Bool) (m : Md) (c : Ck) (e : Expr) : Bool := (match e with
    | .Call (.Name x _) [ea] [] _ => decide (x = Str.ofString "range") && c.blt x && r_a .e c ea && !(isStar ea) && decide (m = .s)
    | _ => false)
def c_rg2 (a : E) (b : E) (r_a : Md → Ck → Expr → Bool) (r_b : Md → Ck → Expr → Bool) (m : Md) (c : Ck) (e : Expr) : Bool := (match e with
    | .Call (.Name x _) [ea, eb] [] _ => decide (x = Str.ofString "range") && c.blt x && r_a .e c ea && r_b .e c eb && !(isStar ea) && !(isStar eb) && decide (m = .s)
    | _ => false)
def c_zip (a : E) (b : E) (r_a : Md → Ck → Expr → Bool) (r_b : Md → Ck → Expr → Bool) (m : Md) (c : Ck) (e : Expr) : Bool := (match e with
    | .Call (.Name x _) [ea, eb] [] _ => decide (x = Str.ofString "zip") && c.blt x && r_a .e c ea && r_b .e c eb && !(isStar ea) && !(isStar eb) && decide (m = .s)
    | _ => false)
def c_enum (a : E) (r_a : Md → Ck → Expr → Bool) (m : Md) (c : Ck) (e : Expr) : Bool := (match e with
    | .Call (.Name x _) [ea] [] _ => decide (x = Str.ofString "enumerate") && c.blt x && r_a .e c ea && !(isStar ea) && decide (m = .s)
    | _ => false)
def c_lc (q : E) (t : Tg) (src : E) (cd : E) (r_q : Md → Ck → Expr → Bool) (r_src : Md → Ck → Expr → Bool) (r_cd : Md → Ck → Expr → Bool) (m : Md) (c : Ck) (e : Expr) : Bool := (match e with
    | .ListComp elt [⟨tg, iter, ifs, 0⟩] scope _ => blkC c.N c.sc scope (ownOf c.N (tgSlots t)) && (tgSlots t).all (fun i => decide (i ∉ c.own)) && r_src .s c iter && srcT src tg && !(isSet iter) && tgC (c.blk scope) t tg && r_q .e (c.blk scope) elt && notP cd && (match ifs with
      | [] => (match cd with
        | .k (.bl true) => true
        | _ => false)
      | [ec] => r_cd .t (c.blk scope) ec
      | _ => false)
    | _ => false)
def c_lc2 (q : E) (t : Tg) (src : E) (cd : E) (t' : Tg) (src' : E) (cd' : E) (r_q : Md → Ck → Expr → Bool) (r_src : Md → Ck → Expr → Bool) (r_cd : Md → Ck → Expr → Bool) (r_src' : Md → Ck → Expr → Bool) (r_cd' : Md → Ck → Expr → Bool) (m : Md) (c : Ck) (e : Expr) : Bool := (match e with
    | .ListComp elt [⟨tg, iter, ifs, 0⟩, ⟨tg1, iter1, ifs1, 0⟩] scope _ => blkC c.N c.sc scope (ownOf c.N (tgSlots t ++ tgSlots t')) && (tgSlots t ++ tgSlots t').all (fun i => decide (i ∉ c.own)) && r_src .s c iter && srcT src tg && !(isSet iter) && tgC (c.blk scope) t tg && r_q .e (c.blk scope) elt && notP cd && notP cd' && notP src' &&
      r_src' .s (c.blk scope) iter1 && srcT src' tg1 && !(isSet iter1) && tgC (c.blk scope) t' tg1 && (match ifs with
      | [] => (match cd with
        | .k (.bl true) => true
        | _ => false)
      | [ec] => r_cd .t (c.blk scope) ec
      | _ => false) && (match ifs1 with
      | [] => (match cd' with
        | .k (.bl true) => true
        | _ => false)
      | [ec] => r_cd' .t (c.blk scope) ec
      | _ => false)
    | _ => false)
def c_pop (i : Nat) (a : E) (r_a : Md → Ck → Expr → Bool) (m : Md) (c : Ck) (e : Expr) : Bool := (match e with
    | .Call (.Attribute (.Name x _) at_ apos) es [] pos => decide (at_ = Str.ofString "pop") && c.nm i x && decide (i ∈ c.own) && (apos.endLine == pos.line) && (match es with
      | [] => isNo a
      | [ea] => !(isNo a) && r_a .e c ea && !(isStar ea)
      | _ => false) && decide (m = .e)
    | _ => false)
def isNmE : Expr → Bool
  | .Name .. => true
  | _ => false
def c_idx (a x : E) (r_a : Md → Ck → Expr → Bool) (r_x : Md → Ck → Expr → Bool) (m : Md) (c : Ck) (e : Expr) : Bool := (match e with
    | .Call (.Attribute ea at_ apos) [ex] [] pos => decide (at_ = Str.ofString "index") && isNmE ea && r_a .e c ea && r_x .e c ex && !(isStar ex) && (apos.endLine == pos.line) && decide (m = .e)
    | _ => false)
def c_rgv (a : E) (r_a : Md → Ck → Expr → Bool) (m : Md) (c : Ck) (e : Expr) : Bool := (match e with
    | .Call (.Name x _) [ea] [] _ => decide (x = Str.ofString "range") && c.blt x && r_a .e c ea && !(isStar ea) && decide (m = .e)
    | _ => false)
def newM (m : Md) : Bool := match m with
  | .e => true
  | .f => true
  | _ => false
def c_dnew (m : Md) (c : Ck) (e : Expr) : Bool := (match e with
    | .Dict [] [] _ => newM m
    | _ => false)
def c_dd (a b : E) (r_a : Md → Ck → Expr → Bool) (r_b : Md → Ck → Expr → Bool) (m : Md) (c : Ck) (e : Expr) : Bool := (match e with
    | .Dict [some ea] [eb] _ => r_a .e c ea && r_b .e c eb && newM m
    | _ => false)
def c_dcomp (a : E) (q : E) (t : Tg) (src : E) (cd : E) (r_a : Md → Ck → Expr → Bool) (r_q : Md → Ck → Expr → Bool) (r_src : Md → Ck → Expr → Bool) (r_cd : Md → Ck → Expr → Bool) (m : Md) (c : Ck) (e : Expr) : Bool := (match e with
    | .DictComp ka elt [⟨tg, iter, ifs, 0⟩] scope _ => blkC c.N c.sc scope (ownOf c.N (tgSlots t)) && (tgSlots t).all (fun i => decide (i ∉ c.own)) && r_src .s c iter && srcT src tg && !(isSet iter) && tgC (c.blk scope) t tg && r_a .e (c.blk scope) ka && r_q .e (c.blk scope) elt && notP cd && newM m && (match ifs with
      | [] => (match cd with
        | .k (.bl true) => true
        | _ => false)
      | [ec] => r_cd .t (c.blk scope) ec
      | _ => false)
    | _ => false)
def c_mk0 (nm : Str) (m : Md) (c : Ck) (e : Expr) : Bool := match e with
  | .Call (.Name x _) [] [] _ => decide (x = nm) && c.gl x && (c.er.any fun z => decide (z.1 = x) && decide (z.2.2 = none)) && decide (m = .e)
  | _ => false
def c_mk1 (nm at_ : Str) (a : E) (ka : Md → Ck → Expr → Bool) (m : Md) (c : Ck) (e : Expr) : Bool := match e with
  | .Call (.Name x _) [ea] [] _ => decide (x = nm) && c.gl x && (c.er.any fun z => decide (z.1 = x) && decide (z.2.2 = some at_)) && ka .e c ea && !(isStar ea) && decide (m = .e)
  | .Call (.Name x _) [] [⟨some n, ea, _⟩] _ => decide (x = nm) && c.gl x && (c.er.any fun z => decide (z.1 = x) && decide (z.2.2 = some at_)) && ka .e c ea && decide (n = at_) && decide (m = .e)
  | _ => false
def nmSub : Expr → Bool
  | .Name .. => true
  | .Subscript .. => true
  | _ => false
def c_att (ns : List Str) (at_ : Str) (a : E) (ka : Md → Ck → Expr → Bool) (m : Md) (c : Ck) (e : Expr) : Bool := match e with
  | .Attribute ea n _ => decide (n = at_) && (ns.all fun x => c.er.any fun z => decide (z.1 = x) && decide (z.2.2 = some at_)) && ka .e c ea && nmSub ea && decide (m = .e)
  | _ => false
def c_isE (ns : List (Str × Bool)) (a : E) (t : ET) (ka : Md → Ck → Expr → Bool) (m : Md) (c : Ck) (e : Expr) : Bool := match e with
  | .Call (.Name x _) [ea, et] [] _ => decide (x = Str.ofString "isinstance") && c.blt x && (ns.all fun y => c.er.any fun z => decide (z.1 = y.1) && decide (z.2.1 = y.2)) && ka .e c ea && !(isStar ea) && etC c.er t c.gl et && !c.er.isEmpty && decide (m = .e)
  | _ => false
mutual
/-- e is what q says: m tells as what (a value, a test, a list made anew, what is walked) -/
def chk : E → Md → Ck → Expr → Bool
  | .k d, m, c, e => c_k d  m c e
  | .v i, m, c, e => c_v i  m c e
  | .mv i, m, c, e => c_mv i  m c e
  | .p i, m, c, e => c_p i  m c e
  | .tup qs, m, c, e => c_tup qs (chks qs) m c e
  | .lst qs, m, c, e => c_lst qs (chks qs) m c e
  | .bin o a b, m, c, e => c_bin o a b (chk a) (chk b) m c e
  | .neg a, m, c, e => c_neg a (chk a) m c e
  | .cmp o a b, m, c, e => c_cmp o a b (chk a) (chk b) m c e
  | .isn a, m, c, e => c_isn a (chk a) m c e
  | .notn a, m, c, e => c_notn a (chk a) m c e
  | .chain o o' a b d, m, c, e => c_chain o o' a b d (chk a) (chk b) (chk d) m c e
  | .and a b, m, c, e => c_and a b (chk a) (chk b) m c e
  | .or a b, m, c, e => c_or a b (chk a) (chk b) m c e
  | .not a, m, c, e => c_not a (chk a) m c e
  | .ife t a b, m, c, e => c_ife t a b (chk t) (chk a) (chk b) m c e
  | .ix a i, m, c, e => c_ix a i (chk a) (chk i) m c e
  | .sl a lo hi, m, c, e => c_sl a lo hi (chk a) (chk lo) (chk hi) m c e
  | .rev a, m, c, e => c_rev a (chk a) m c e
  | .f1 f a, m, c, e => c_f1 f a (chk a) m c e
  | .f2 f a b, m, c, e => c_f2 f a b (chk a) (chk b) m c e
  | .isi a ts, m, c, e => c_isi a ts (chk a) m c e
  | .call f mu as, m, c, e => c_call f mu as (chks as) m c e
  | .callk f mu ord as, m, c, e => c_callk f mu ord as (chks as) m c e
  | .callb f g as, m, c, e => c_callb f g as (chks as) m c e
  | .rg1 a, m, c, e => c_rg1 a (chk a) m c e
  | .rg2 a b, m, c, e => c_rg2 a b (chk a) (chk b) m c e
  | .zip a b, m, c, e => c_zip a b (chk a) (chk b) m c e
  | .enum a, m, c, e => c_enum a (chk a) m c e
  | .lc q t src cd, m, c, e => c_lc q t src cd (chk q) (chk src) (chk cd) m c e
  | .lc2 q t src cd t' src' cd', m, c, e => c_lc2 q t src cd t' src' cd' (chk q) (chk src) (chk cd) (chk src') (chk cd') m c e
  | .pop i a, m, c, e => c_pop i a (chk a) m c e
  | .idx a x, m, c, e => c_idx a x (chk a) (chk x) m c e
  | .rgv a, m, c, e => c_rgv a (chk a) m c e
  | .dnew, m, c, e => c_dnew m c e
  | .dd a b, m, c, e => c_dd a b (chk a) (chk b) m c e
  | .dcomp a q t src cd, m, c, e => c_dcomp a q t src cd (chk a) (chk q) (chk src) (chk cd) m c e
  | .mk0 nm, m, c, e => c_mk0 nm m c e
  | .mk1 nm at_ a, m, c, e => c_mk1 nm at_ a (chk a) m c e
  | .att ns at_ a, m, c, e => c_att ns at_ a (chk a) m c e
  | .isE ns a t, m, c, e => c_isE ns a t (chk a) m c e
  | .no, _, _, _ => false
def chks : List E → Ck → List Expr → Bool
  | [], c, es => es.isEmpty
  | q :: qs, c, es => (match es with
    | e :: r => opdC q c e (chk q .e c e) && chks qs c r && !(isStar e)
    | [] => false)
end
end Py
set_option Elab.async false
set_option linter.all false
set_option maxRecDepth 100000
set_option maxHeartbeats 4000000
namespace Py
open PySem PySem.Spec PyProof.Rows L2
section
variable {G : Exi} {cf : CF}
def Snd (G : Exi) (cf : CF) (m : Md) (c : Ck) (q : E) (e : Expr) (X : Cx) : Prop := match m with
  | .e => SE G X cf c.own q e
  | .t => ST G X cf c.own q e
  | .f => SF G X cf c.own q e
  | .s => ∀ tg, srcT q tg = true → SI G X cf c.own q tg e
theorem isLst_ok {q : E} (h : isLst q = true) : ∀ η d η', ev cf q η = .ok (d, η') → ∃ ds, d = .lst ds := by
  have f1l : ∀ (f : F1), (f = .list ∨ f = .sorted ∨ f = .sset) → ∀ d z, f1D f d = .ok z → ∃ ds, z = .lst ds := by
    rintro f (rfl | rfl | rfl) d z hz
    · obtain ⟨xs, _, rfl⟩ := f1_list hz; exact ⟨_, rfl⟩
    · obtain ⟨ns, _, rfl⟩ := f1_sorted hz; exact ⟨_, rfl⟩
    · obtain ⟨xs, ns, _, _, _, rfl⟩ := f1_sset hz; exact ⟨_, rfl⟩
  have f1c : ∀ (f : F1) (a : E), (f = .list ∨ f = .sorted ∨ f = .sset) → ∀ η d η', ev cf (.f1 f a) η = .ok (d, η') → ∃ ds, d = .lst ds := by
    intro f a hf η d η' he
    by_cases n : ∃ b, a = .rg1 b
    · obtain ⟨b, rfl⟩ := n
      simp only [ev] at he
      obtain ⟨_, _, he⟩ := bindOk he
      obtain ⟨_, _, he⟩ := bindOk he
      split at he
      · obtain ⟨z, ez, he⟩ := bindOk he
        cases he
        exact f1l f hf _ _ (noerOk ez)
      · cases he
    · rw [ev_f1 fun b z => n ⟨b, z⟩] at he
      obtain ⟨_, _, he⟩ := bindOk he
      obtain ⟨_, _, he⟩ := bindOk he
      obtain ⟨z, ez, he⟩ := bindOk he
      cases he
      exact f1l f hf _ _ (noerOk ez)
  cases q with
  | lst qs => exact lst_lst
  | lc a b c d => exact lc_lst
  | lc2 a b c d e f g => exact lc2_lst
  | f1 f a =>
    cases f with
    | list => exact f1c _ a (.inl rfl)
    | sorted => exact f1c _ a (.inr (.inl rfl))
    | sset => exact f1c _ a (.inr (.inr rfl))
    | _ => cases h
  | _ => cases h
/-- as a value: hence as a test, as what is walked -/
theorem snd_e {c : Ck} {q : E} {e : Expr} {X : Cx} {m : Md} (hm : m ≠ .f) (hp : ∀ i, q ≠ .p i) (ht : plainT e = true) (hs : plainSrc q = true) (h : SE G X cf c.own q e) : Snd G cf m c q e X := by
  cases m with
  | e => exact h
  | t => exact st_plain (h.so hp) (plainT_ok ht _)
  | f => exact absurd rfl hm
  | s => exact fun tg _ => si_seq h hs
theorem notP_ok {q : E} (h : notP q = true) : ∀ i, q ≠ .p i := fun i z => by subst z; cases h
theorem notRg_ok {q : E} (h : notRg q = true) : ∀ b, q ≠ .rg1 b := fun i z => by subst z; cases h
theorem tys_ok {c : Ck} {X : Cx} (g : Good G c cf X) : ∀ {ts : List Ty} {es : List Expr}, tysC c ts es = true → TyEs X ts es
  | [], es, h => by
    simp only [tysC] at h
    rw [List.isEmpty_iff] at h
    subst h; exact trivial
  | t :: ts, es, h => by
    simp only [tysC] at h
    split at h
    · rename_i x p r
      simp only [Bool.and_eq_true, decide_eq_true_eq] at h
      obtain ⟨⟨rfl, h2⟩, h3⟩ := h
      obtain ⟨g1, g2⟩ := g.bltn h2
      exact ⟨rfl, g1, g2, tys_ok g h3⟩
    · cases h
theorem place_ok {as : List E} (h : placeC as = true) : ∀ i, .p i ∈ as → i ≠ 0 := fun i hi => by
  have := List.all_eq_true.mp h _ hi
  simpa using this
theorem kwU_ok : ∀ {kws : List Keyword} {l : KwL}, kwU kws = some l → kws = kwsOf l
  | [], l, h => by cases h; rfl
  | ⟨some n, e, p⟩ :: ks, l, h => by
    have h : (kwU ks).map ((n, e, p) :: ·) = some l := h
    rw [Option.map_eq_some_iff] at h
    obtain ⟨l', h1, rfl⟩ := h
    rw [kwU_ok h1]; rfl
  | ⟨none, e, p⟩ :: ks, l, h => by cases h
theorem call_ok {c : Ck} {X : Cx} (g : Good G c cf X) {f n : Nat} {x : Str} {mu : Bool} (h : callC c f x mu n = true) : Gl X x ∧ ∃ (k : Nat) (fa : Addr) (fd : FuncData) (ps : List Str) (fr : Bool), c.ds[f]? = some (mu, fr, n) ∧ Room k X.A ∧ X.mg x = some (.ref fa) ∧ PySem.W.keepIn X.K (.ref fa) = true ∧ Binds X.K fd ps [] ∧ (x == ("__debug__" : Str)) = false ∧
    (if mu = true then FnOk X.prog X.w X.K X.mg X.base (L2.CX X.prog X.w) k fa fd ps (SpM G X.K cf f n) else FnOk X.prog X.w X.K X.mg X.base (L2.CX X.prog X.w) k fa fd ps (SpN G X.K cf fr f n)) ∧
    ∀ ks ord, (f, ks, ord) ∈ c.kw → KwB X.K fd ps ks ord := by
  unfold callC at h
  simp only [Bool.and_eq_true, decide_eq_true_eq] at h
  obtain ⟨⟨h1, h2⟩, h3⟩ := h
  obtain ⟨k, fa, fd, ps, e1, e2, e3, e4, e5, e6, e7⟩ := (g.call x f h2).ex
  refine ⟨g.glo h1, k, fa, fd, ps, ?_⟩
  cases e : c.ds[f]? with
  | none => rw [e] at h3; cases h3
  | some t =>
    obtain ⟨m, fr, np⟩ := t
    rw [e] at h3
    simp only [Bool.and_eq_true, decide_eq_true_eq, beq_iff_eq] at h3
    obtain ⟨rfl, rfl⟩ := h3
    exact ⟨fr, rfl, e1, e2, e3, e4, e5, e6 _ _ _ e, e7⟩
theorem blk_own {c : Ck} {scope : Scope} {ow : List Nat} {X : Cx} (g : Good G c cf X) (h : blkC c.N c.sc scope (ownOf c.N ow) = true) : BlkOk X.N X.env.scope scope (ownOf c.N ow) := by
  have := blkOk_by h
  rw [g.N, g.sc]; exact this
theorem own_map (N : List Str) (is : List Nat) : (ownOf N is).map (·.2) = is := by
  unfold ownOf
  rw [List.map_map]
  exact List.map_id' is
theorem set_no {e : Expr} (h : isSet e = false) : ∀ es k p, e ≠ .Set es k p := fun es k p z => by subst z; cases h
theorem no_of {q : E} (h : isNo q = true) : q = .no := by cases q <;> first | rfl | cases h
theorem no_ne {q : E} (h : isNo q = false) : q ≠ .no := fun z => by subst z; cases h
theorem nmSub_ok {ea : Expr} {n : Str} {env : PySem.Env} (h : nmSub ea = true) : attributeBase ea n env (eval ea env) = eval ea env := by
  cases ea with
  | Name x p => rfl
  | Subscript a b p => rfl
  | _ => exact absurd h Bool.false_ne_true
mutual
theorem chk_ok : ∀ (q : E) (m : Md) (c : Ck) (e : Expr) (X : Cx), chk q m c e = true → Good G c cf X → Snd G cf m c q e X
  | .k d, m, c, e, X, h, g => by
    have h : c_k d  m c e = true := h
    unfold c_k at h
    simp only [Bool.and_eq_true] at h
    obtain ⟨h1, h2⟩ := h
    cases m with
    | e => exact const_ok h1
    | t => exact st_plain ((const_ok h1).so fun i z => by cases z) (plainT_ok h2 _)
    | f => cases h2
    | s => cases h2
  | .v i, m, c, e, X, h, g => by
    have h : c_v i  m c e = true := h
    unfold c_v at h
    split at h
    · rename_i x p
      simp only [Bool.and_eq_true, decide_eq_true_eq] at h
      obtain ⟨⟨h1, h2⟩, h3⟩ := h
      obtain ⟨g1, g2, g3, g4⟩ := g.name h1
      exact snd_e (fun z => by subst z; cases h3) (fun i z => by cases z) rfl rfl (se_v g1 g2 g3 g4 h2)
    · cases h
  | .mv i, m, c, e, X, h, g => by
    have h : c_mv i  m c e = true := h
    unfold c_mv at h
    split at h
    · rename_i x p
      simp only [Bool.and_eq_true, decide_eq_true_eq] at h
      obtain ⟨⟨⟨h1, h2⟩, h0⟩, h3⟩ := h
      obtain ⟨g1, g2, g3, g4⟩ := g.name h1
      cases m with
      | e => exact se_mv g1 g2 g3 g4 h2 h0
      | _ => cases h3
    · cases h
  | .p i, m, c, e, X, h, g => by
    have h : c_p i  m c e = true := h
    unfold c_p at h
    split at h
    · rename_i x p
      simp only [Bool.and_eq_true, decide_eq_true_eq] at h
      obtain ⟨⟨h1, h2⟩, h3⟩ := h
      obtain ⟨g1, g2, g3, g4⟩ := g.name h1
      cases m with
      | t => exact st_plain (so_p g1 g2 g3 g4 h2) (plainT_ok rfl _)
      | s => exact fun tg _ => si_p g1 g2 g3 g4 h2 (of_decide_eq_true h3)
      | _ => cases h3
    · cases h
  | .no, m, c, e, X, h, g => by cases (show false = true from h)
  | .tup qs, m, c, e, X, h, g => by
    have h : c_tup qs (chks qs) m c e = true := h
    unfold c_tup at h
    split at h
    · simp only [Bool.and_eq_true, decide_eq_true_eq] at h
      obtain ⟨⟨h1, h2⟩, h3⟩ := h
      exact snd_e (fun z => by subst z; cases h3) (fun i z => by cases z) rfl rfl (se_tup (chks_ok qs c _ X h1 g) (by show _ ≤ 16777216; omega))
    · cases h
  | .lst qs, m, c, e, X, h, g => by
    have h : c_lst qs (chks qs) m c e = true := h
    unfold c_lst at h
    split at h
    · simp only [Bool.and_eq_true, decide_eq_true_eq] at h
      have hf := sf_lst (pos := ‹Pos›) (chks_ok qs c _ X h.1 g) (by have := h.2; show _ ≤ 16777216; omega)
      cases m with
      | f => exact hf
      | e => exact hf.se lst_lst
      | t => exact snd_e (m := .t) (fun z => by cases z) (fun i z => by cases z) rfl rfl (hf.se lst_lst)
      | s => exact snd_e (m := .s) (fun z => by cases z) (fun i z => by cases z) rfl rfl (hf.se lst_lst)
    · cases h
  | .bin o a b, m, c, e, X, h, g => by
    have h : c_bin o a b (chk a) (chk b) m c e = true := h
    unfold c_bin at h
    split at h
    · simp only [Bool.and_eq_true] at h
      obtain ⟨⟨h1, h2⟩, h3⟩ := h
      have e1 := opC_eq h1
      subst e1
      have ha := g.opd h2 fun r => chk_ok a .e c _ X r g
      have hb := g.opd h3 fun r => chk_ok b .e c _ X r g
      cases m with
      | f => exact sf_bin ha hb
      | e => exact se_bin ha hb
      | t => exact snd_e (m := .t) (fun z => by cases z) (fun i z => by cases z) rfl rfl (se_bin ha hb)
      | s => exact snd_e (m := .s) (fun z => by cases z) (fun i z => by cases z) rfl rfl (se_bin ha hb)
    · cases h
  | .neg a, m, c, e, X, h, g => by
    have h : c_neg a (chk a) m c e = true := h
    unfold c_neg at h
    split at h
    · simp only [Bool.and_eq_true] at h
      have ha := se_neg (pos := ‹Pos›) (show SE G X cf c.own a _ from chk_ok a .e c _ X h.1 g)
      cases m with
      | e => exact ha
      | t => exact snd_e (m := .t) (fun z => by cases z) (fun i z => by cases z) rfl rfl ha
      | f => cases h.2
      | s => cases h.2
    · cases h
  | .cmp o a b, m, c, e, X, h, g => by
    have h : c_cmp o a b (chk a) (chk b) m c e = true := h
    unfold c_cmp at h
    split at h
    · simp only [Bool.and_eq_true, Bool.not_eq_true'] at h
      obtain ⟨⟨⟨⟨h1, h2⟩, h3⟩, h4⟩, h5⟩ := h
      have e1 := copC_eq h1
      subst e1
      have ha := g.opd h2 fun r => chk_ok a .e c _ X r g
      have hb := g.opd h3 fun r => chk_ok b .e c _ X r g
      cases m with
      | e => exact se_cmp g.un ha hb h4
      | t => exact st_cmp g.un ha hb h4
      | f => cases h5
      | s => cases h5
    · cases h
  | .isn a, m, c, e, X, h, g => by
    have h : c_isn a (chk a) m c e = true := h
    unfold c_isn at h
    split at h
    · simp only [Bool.and_eq_true] at h
      have ha := g.opd h.1 fun r => chk_ok a .e c _ X r g
      cases m with
      | e => exact se_isn ha
      | t => exact st_isn ha
      | f => cases h.2
      | s => cases h.2
    · cases h
  | .notn a, m, c, e, X, h, g => by
    have h : c_notn a (chk a) m c e = true := h
    unfold c_notn at h
    split at h
    · simp only [Bool.and_eq_true] at h
      have ha := g.opd h.1 fun r => chk_ok a .e c _ X r g
      cases m with
      | e => exact se_notn ha
      | t => exact st_notn ha
      | f => cases h.2
      | s => cases h.2
    · cases h
  | .chain o o' a b d, m, c, e, X, h, g => by
    have h : c_chain o o' a b d (chk a) (chk b) (chk d) m c e = true := h
    unfold c_chain at h
    split at h
    · simp only [Bool.and_eq_true, Bool.not_eq_true'] at h
      obtain ⟨⟨⟨⟨⟨⟨h1, h2⟩, h3⟩, h4⟩, h5⟩, h6⟩, h7⟩ := h
      have e1 := copC_eq h1
      have e2 := copC_eq h2
      subst e1 e2
      have ha : SE G X cf c.own a _ := chk_ok a .e c _ X h3 g
      have hb : SE G X cf c.own b _ := chk_ok b .e c _ X h4 g
      have hd : SE G X cf c.own d _ := chk_ok d .e c _ X h5 g
      cases m with
      | e => exact se_chain g.un ha hb hd h6
      | t => exact st_chain g.un ha hb hd h6
      | f => cases h7
      | s => cases h7
    · cases h
  | .and a b, m, c, e, X, h, g => by
    have h : c_and a b (chk a) (chk b) m c e = true := h
    unfold c_and at h
    split at h
    · rename_i ea eb rest pos _
      simp only [Bool.and_eq_true] at h
      have ha : SE G X cf c.own a _ := chk_ok a .e c _ X h.1 g
      cases rest with
      | nil => exact se_and ha (se_one (show SE G X cf c.own b _ from chk_ok b .e c _ X h.2 g))
      | cons r rs => exact se_and ha (show SE G X cf c.own b _ from chk_ok b .e c _ X h.2 g)
    · rename_i ea eb rest pos _
      simp only [Bool.and_eq_true] at h
      obtain ⟨⟨⟨h1, h2⟩, h3⟩, h4⟩ := h
      have ha : ST G X cf c.own a _ := chk_ok a .t c _ X h3 g
      cases rest with
      | nil => exact st_and (notP_ok h1) (notP_ok h2) ha (st_one_and (show ST G X cf c.own b _ from chk_ok b .t c _ X h4 g))
      | cons r rs => exact st_and (notP_ok h1) (notP_ok h2) ha (show ST G X cf c.own b _ from chk_ok b .t c _ X h4 g)
    · cases h
  | .or a b, m, c, e, X, h, g => by
    have h : c_or a b (chk a) (chk b) m c e = true := h
    unfold c_or at h
    split at h
    · rename_i ea eb rest pos _
      simp only [Bool.and_eq_true] at h
      have ha : SE G X cf c.own a _ := chk_ok a .e c _ X h.1 g
      cases rest with
      | nil => exact se_or ha (se_one (show SE G X cf c.own b _ from chk_ok b .e c _ X h.2 g))
      | cons r rs => exact se_or ha (show SE G X cf c.own b _ from chk_ok b .e c _ X h.2 g)
    · rename_i ea eb rest pos _
      simp only [Bool.and_eq_true] at h
      obtain ⟨⟨⟨h1, h2⟩, h3⟩, h4⟩ := h
      have ha : ST G X cf c.own a _ := chk_ok a .t c _ X h3 g
      cases rest with
      | nil => exact st_or (notP_ok h1) (notP_ok h2) ha (st_one_or (show ST G X cf c.own b _ from chk_ok b .t c _ X h4 g))
      | cons r rs => exact st_or (notP_ok h1) (notP_ok h2) ha (show ST G X cf c.own b _ from chk_ok b .t c _ X h4 g)
    · simp only [Bool.and_eq_true] at h
      exact sf_or (show SF G X cf c.own a _ from chk_ok a .f c _ X h.1.2 g) (isLst_ok h.1.1) (show SF G X cf c.own b _ from chk_ok b .f c _ X h.2 g)
    · cases h
  | .not a, m, c, e, X, h, g => by
    have h : c_not a (chk a) m c e = true := h
    unfold c_not at h
    split at h
    · exact se_not (g.opd h fun r => chk_ok a .e c _ X r g)
    · exact st_not (show ST G X cf c.own a _ from chk_ok a .t c _ X h g)
    · cases h
  | .ife t a b, m, c, e, X, h, g => by
    have h : c_ife t a b (chk t) (chk a) (chk b) m c e = true := h
    unfold c_ife at h
    split at h
    · simp only [Bool.and_eq_true] at h
      exact se_ife (show ST G X cf c.own t _ from chk_ok t .t c _ X h.1.1 g) (show SE G X cf c.own a _ from chk_ok a .e c _ X h.1.2 g) (show SE G X cf c.own b _ from chk_ok b .e c _ X h.2 g)
    · simp only [Bool.and_eq_true] at h
      exact fun tg _ => si_seq (se_ife (show ST G X cf c.own t _ from chk_ok t .t c _ X h.1.1 g) (show SE G X cf c.own a _ from chk_ok a .e c _ X h.1.2 g) (show SE G X cf c.own b _ from chk_ok b .e c _ X h.2 g)) rfl
    · cases h
  | .ix a i, m, c, e, X, h, g => by
    have h : c_ix a i (chk a) (chk i) m c e = true := h
    unfold c_ix at h
    split at h
    · simp only [Bool.and_eq_true, Bool.not_eq_true'] at h
      obtain ⟨⟨⟨h1, h2⟩, h3⟩, h4⟩ := h
      exact snd_e (fun z => by subst z; cases h4) (fun i z => by cases z) rfl rfl (se_ix (by have := g.un; omega) (g.opd h1 fun r => chk_ok a .e c _ X r g) (show SE G X cf c.own i _ from chk_ok i .e c _ X h2 g) h3)
    · cases h
  | .sl a lo hi, m, c, e, X, h, g => by
    have h : c_sl a lo hi (chk a) (chk lo) (chk hi) m c e = true := h
    unfold c_sl at h
    split at h
    · rename_i ea elo ehi p1 p2 _
      simp only [Bool.and_eq_true] at h
      obtain ⟨⟨h1, h2⟩, h3⟩ := h
      have ha := g.opd h1 fun r => chk_ok a .e c _ X r g
      have hl : PRel G X cf c.own lo elo := by
        cases elo with
        | none => exact no_of h2
        | some el =>
          simp only [Bool.and_eq_true, Bool.not_eq_true'] at h2
          exact ⟨no_ne h2.1, show SE G X cf c.own lo _ from chk_ok lo .e c _ X h2.2 g⟩
      have hh : PRel G X cf c.own hi ehi := by
        cases ehi with
        | none => exact no_of h3
        | some el =>
          simp only [Bool.and_eq_true, Bool.not_eq_true'] at h3
          exact ⟨no_ne h3.1, show SE G X cf c.own hi _ from chk_ok hi .e c _ X h3.2 g⟩
      cases m with
      | f => exact sf_sl ha hl hh
      | e => exact se_sl ha hl hh
      | t => exact snd_e (m := .t) (fun z => by cases z) (fun i z => by cases z) rfl rfl (se_sl ha hl hh)
      | s => exact snd_e (m := .s) (fun z => by cases z) (fun i z => by cases z) rfl rfl (se_sl ha hl hh)
    · cases h
  | .rev a, m, c, e, X, h, g => by
    have h : c_rev a (chk a) m c e = true := h
    unfold c_rev at h
    split at h
    · simp only [Bool.and_eq_true] at h
      exact snd_e (fun z => by subst z; cases h.2) (fun i z => by cases z) rfl rfl (se_rev (g.opd h.1 fun r => chk_ok a .e c _ X r g))
    · cases h
  | .f1 f a, m, c, e, X, h, g => by
    have h : c_f1 f a (chk a) m c e = true := h
    have key : ∀ (f : F1), c_f1p f a (chk a) m c e = true → one1 f = true → Snd G cf m c (.f1 f a) e X := by
      intro f h ho
      unfold c_f1p at h
      split at h
      · simp only [Bool.and_eq_true, Bool.not_eq_true', decide_eq_true_eq] at h
        obtain ⟨⟨⟨⟨⟨rfl, h2⟩, h3⟩, h4⟩, h5⟩, h6⟩ := h
        obtain ⟨g1, g2⟩ := g.bltn h2
        have ha := g.opd h3 fun r => chk_ok a .e c _ X r g
        cases m with
        | f =>
          simp only [Bool.or_eq_true, decide_eq_true_eq] at h6
          rcases h6 with rfl | rfl
          · exact sf_list g.calm ha (notRg_ok h4) g1 g2 (ns_of h5 _ _)
          · exact sf_sorted g.calm ha (notRg_ok h4) g1 g2 (ns_of h5 _ _)
        | e => exact se_f1 g.calm ho ha (notRg_ok h4) g1 g2 (ns_of h5 _ _)
        | t => exact snd_e (m := .t) (fun z => by cases z) (fun i z => by cases z) rfl rfl (se_f1 g.calm ho ha (notRg_ok h4) g1 g2 (ns_of h5 _ _))
        | s => exact snd_e (m := .s) (fun z => by cases z) (fun i z => by cases z) rfl rfl (se_f1 g.calm ho ha (notRg_ok h4) g1 g2 (ns_of h5 _ _))
      · cases h
    have rgl : ∀ (f : F1), c_rgl f a (chk a) m c e = true → Snd G cf m c (.f1 f a) e X := by
      intro f h
      unfold c_rgl at h
      split at h
      · rename_i x p ea pos _ _
        simp only [Bool.and_eq_true, Bool.or_eq_true, Bool.not_eq_true', decide_eq_true_eq] at h
        obtain ⟨⟨⟨⟨⟨rfl, h2⟩, h3⟩, h4⟩, h5⟩, h6⟩ := h
        obtain ⟨g1, g2⟩ := g.bltn h2
        cases a with
        | rg1 b =>
          have h5 : c_rg1 b (chk b) .s c ea = true := h5
          unfold c_rg1 at h5
          split at h5
          · simp only [Bool.and_eq_true, Bool.not_eq_true', decide_eq_true_eq] at h5
            obtain ⟨⟨⟨⟨rfl, k2⟩, k3⟩, k4⟩, _⟩ := h5
            obtain ⟨g3, g4⟩ := g.bltn k2
            exact snd_e (fun z => by subst z; cases h6) (fun i z => by cases z) rfl rfl (se_rgl g.calm h3 (show SE G X cf c.own b _ from chk_ok b .e c _ X k3 g) g1 g2 g3 g4 (ns_of k4 _ _))
          · cases h5
        | _ => cases h4
      · cases h
    have both : ∀ (f : F1), (c_f1p f a (chk a) m c e || c_rgl f a (chk a) m c e) = true → one1 f = true → Snd G cf m c (.f1 f a) e X := fun f h ho => by
      rcases Bool.or_eq_true_iff.mp h with h | h
      · exact key f h ho
      · exact rgl f h
    unfold c_f1 at h
    cases f with
    | sset =>
      dsimp only at h
      split at h
      · rename_i x p1 y p2 ea p3 p4 _
        simp only [Bool.and_eq_true, Bool.not_eq_true', decide_eq_true_eq] at h
        obtain ⟨⟨⟨⟨⟨⟨rfl, rfl⟩, h2⟩, h3⟩, h4⟩, h5⟩, h6⟩ := h
        obtain ⟨g1, g2⟩ := g.bltn h2
        obtain ⟨g3, g4⟩ := g.bltn h3
        have hf : SF G X cf c.own (.f1 .sset a) _ := sf_sset (p := p1) (p' := p2) (pos := p4) (pos' := p3) g.calm (g.opd h4 fun r => chk_ok a .e c _ X r g) (notRg_ok h5) g1 g2 g3 g4 (ns_of h6 _ _)
        cases m with
        | f => exact hf
        | e => exact hf.se (isLst_ok rfl)
        | t => exact snd_e (m := .t) (fun z => by cases z) (fun i z => by cases z) rfl rfl (hf.se (isLst_ok rfl))
        | s => exact snd_e (m := .s) (fun z => by cases z) (fun i z => by cases z) rfl rfl (hf.se (isLst_ok rfl))
      · cases h
    | lset =>
      dsimp only at h
      split at h
      · simp only [Bool.and_eq_true, Bool.not_eq_true', decide_eq_true_eq] at h
        obtain ⟨⟨⟨⟨⟨⟨⟨rfl, rfl⟩, h2⟩, h3⟩, h4⟩, h5⟩, h6⟩, rfl⟩ := h
        obtain ⟨g1, g2⟩ := g.bltn h2
        obtain ⟨g3, g4⟩ := g.bltn h3
        exact se_lset g.calm (g.opd h4 fun r => chk_ok a .e c _ X r g) (notRg_ok h5) g1 g2 g3 g4 (ns_of h6 _ _)
      · cases h
    | len => exact both _ h rfl
    | tuple => exact both _ h rfl
    | list => exact both _ h rfl
    | sorted => exact both _ h rfl
    | int => exact both _ h rfl
    | abs => exact both _ h rfl
    | all => exact both _ h rfl
    | any => exact both _ h rfl
    | sum => exact both _ h rfl
    | str => exact both _ h rfl
    | min1 => exact both _ h rfl
    | max1 => exact both _ h rfl
  | .f2 f a b, m, c, e, X, h, g => by
    have h : c_f2 f a b (chk a) (chk b) m c e = true := h
    unfold c_f2 at h
    split at h
    · simp only [Bool.and_eq_true, Bool.not_eq_true', decide_eq_true_eq] at h
      obtain ⟨⟨⟨⟨⟨⟨h1, h2⟩, h3⟩, h4⟩, h5⟩, h6⟩, rfl⟩ := h
      obtain ⟨g1, g2⟩ := g.bltn h2
      have ha : SE G X cf c.own a _ := chk_ok a .e c _ X h3 g
      have hb : SE G X cf c.own b _ := chk_ok b .e c _ X h4 g
      cases f with
      | min => have e1 := of_decide_eq_true h1; subst e1; exact se_min g.calm ha hb h5 h6 g1 g2
      | max => have e1 := of_decide_eq_true h1; subst e1; exact se_max g.calm ha hb h5 h6 g1 g2
      | gcd => cases h1
    · cases h
  | .isi a ts, m, c, e, X, h, g => by
    have h : c_isi a ts (chk a) m c e = true := h
    unfold c_isi at h
    split at h
    · rename_i x p ea et pos _
      simp only [Bool.and_eq_true, Bool.not_eq_true', decide_eq_true_eq] at h
      obtain ⟨⟨⟨⟨⟨⟨rfl, h2⟩, h3⟩, h4⟩, h5⟩, h6⟩, h7⟩ := h
      obtain ⟨g1, g2⟩ := g.bltn h2
      have ha := g.opd h3 fun r => chk_ok a .e c _ X r g
      have hse : SE G X cf c.own (.isi a ts) (.Call (.Name "isinstance" p) [ea, et] [] pos) := by
        split at h6
        · exact se_isiT ha h4 g1 g2 (tys_ok g h6) (by show _ ≤ 16777216; omega)
        · simp only [Bool.and_eq_true, decide_eq_true_eq] at h6
          obtain ⟨k1, k2⟩ := h6
          match ts, k2, k1 with
          | [t], _, k1 =>
            obtain ⟨e1, e2, e3, _⟩ := tys_ok g k1
            subst e1
            exact se_isi1 ha h4 g1 g2 e2 e3
        · cases h6
      exact snd_e (fun z => by subst z; cases h7) (fun i z => by cases z) rfl rfl hse
    · cases h
  | .call f mu as, m, c, e, X, h, g => by
    have h : c_call f mu as (chks as) m c e = true := h
    unfold c_call at h
    split at h
    · rename_i x p es pos _
      simp only [Bool.and_eq_true] at h
      obtain ⟨⟨⟨⟨h1, h2⟩, h3⟩, h4⟩, h5⟩ := h
      obtain ⟨gl, k, fa, fd, ps, fr, e0, e1, e2, e3, e4, e5, F, _⟩ := call_ok g h1
      have ha := chks_ok as c es X h2 g
      have hst : ∀ z ∈ es, isStar z = false := fun z hz => by simpa using List.all_eq_true.mp h3 z hz
      have hse : SE G X cf c.own (.call f mu as) (.Call (.Name x p) es [] pos) := by
        cases mu with
        | false =>
          cases es with
          | nil =>
            cases as with
            | nil => exact se_call0 F e1 gl e2 e3 e4 e5
            | cons a r => cases (show false = true from h2)
          | cons z zs => exact se_call F e1 gl e2 e3 e4 e5 hst ha rfl (place_ok h4)
        | true =>
          cases as with
          | nil => cases h4
          | cons a r =>
            cases a with
            | p i =>
              simp only [Bool.and_eq_true, Bool.not_eq_true'] at h4
              obtain ⟨h6, h7⟩ := h4
              cases es with
              | nil => cases (show false = true from h2)
              | cons z zs =>
                refine se_callM F e1 gl e2 e3 e4 e5 hst ha rfl (fun hi => ?_) (place_ok h6)
                have := List.any_eq_false.mp h7 _ hi
                simp at this
            | _ => cases h4
      exact snd_e (fun z => by subst z; cases h5) (fun i z => by cases z) rfl rfl hse
    · cases h
  | .callk f mu ord as, m, c, e, X, h, g => by
    have h : c_callk f mu ord as (chks as) m c e = true := h
    unfold c_callk at h
    split at h
    · rename_i x p kws pos _
      split at h
      · rename_i l hl
        simp only [Bool.and_eq_true, Bool.not_eq_true', decide_eq_true_eq] at h
        obtain ⟨⟨⟨⟨⟨⟨rfl, h1⟩, h2⟩, h3⟩, h4⟩, h5⟩, h6⟩ := h
        have e8 := kwU_ok hl
        subst e8
        obtain ⟨gl, k, fa, fd, ps, fr, e0, e1, e2, e3, e4, e5, F, hk⟩ := call_ok g h1
        exact snd_e (fun z => by subst z; cases h6) (fun i z => by cases z) rfl rfl (se_callk F e1 gl e2 e3 (hk _ _ h2) e5 (chkk_ok as c l X h3 g) h4 rfl (place_ok h5))
      · cases h
    · cases h
  | .callb f g' as, m, c, e, X, h, g => by
    have h : c_callb f g' as (chks as) m c e = true := h
    unfold c_callb at h
    split at h
    · rename_i x p y p2 es pos2 pos _
      simp only [Bool.and_eq_true, Bool.not_eq_true', decide_eq_true_eq] at h
      obtain ⟨⟨⟨⟨⟨⟨⟨h1, h2⟩, h3⟩, h4⟩, h5⟩, h6⟩, h7⟩, rfl⟩ := h
      obtain ⟨gl, k, fa, fd, ps, fr, e0, e1, e2, e3, e4, e5, F, _⟩ := call_ok g h1
      obtain ⟨gl', k', fa', fd', ps', fr', e0', e1', e2', e3', e4', e5', F', _⟩ := call_ok g h2
      rw [e0'] at h3
      have h3 : fr' = true := h3
      subst h3
      have ha := chks_ok as c es X h4 g
      have hst : ∀ z ∈ es, isStar z = false := fun z hz => by simpa using List.all_eq_true.mp h5 z hz
      cases es with
      | nil => cases h6
      | cons z zs => exact se_callb F e1 gl e2 e3 e4 e5 F' e1' gl' e2' e3' e4' e5' hst ha rfl (place_ok h7)
    · cases h
  | .rg1 a, m, c, e, X, h, g => by
    have h : c_rg1 a (chk a) m c e = true := h
    unfold c_rg1 at h
    split at h
    · simp only [Bool.and_eq_true, Bool.not_eq_true', decide_eq_true_eq] at h
      obtain ⟨⟨⟨⟨rfl, h2⟩, h3⟩, h4⟩, rfl⟩ := h
      obtain ⟨g1, g2⟩ := g.bltn h2
      exact fun tg _ => si_rg1 (show SE G X cf c.own a _ from chk_ok a .e c _ X h3 g) h4 g1 g2
    · cases h
  | .rg2 a b, m, c, e, X, h, g => by
    have h : c_rg2 a b (chk a) (chk b) m c e = true := h
    unfold c_rg2 at h
    split at h
    · simp only [Bool.and_eq_true, Bool.not_eq_true', decide_eq_true_eq] at h
      obtain ⟨⟨⟨⟨⟨⟨rfl, h2⟩, h3⟩, h4⟩, h5⟩, h6⟩, rfl⟩ := h
      obtain ⟨g1, g2⟩ := g.bltn h2
      exact fun tg _ => si_rg2 (show SE G X cf c.own a _ from chk_ok a .e c _ X h3 g) (show SE G X cf c.own b _ from chk_ok b .e c _ X h4 g) h5 h6 g1 g2
    · cases h
  | .zip a b, m, c, e, X, h, g => by
    have h : c_zip a b (chk a) (chk b) m c e = true := h
    unfold c_zip at h
    split at h
    · simp only [Bool.and_eq_true, Bool.not_eq_true', decide_eq_true_eq] at h
      obtain ⟨⟨⟨⟨⟨⟨rfl, h2⟩, h3⟩, h4⟩, h5⟩, h6⟩, rfl⟩ := h
      obtain ⟨g1, g2⟩ := g.bltn h2
      intro tg ht
      cases tg with
      | Tuple es k p => exact si_zip (show SE G X cf c.own a _ from chk_ok a .e c _ X h3 g) (show SE G X cf c.own b _ from chk_ok b .e c _ X h4 g) h5 h6 g1 g2
      | _ => cases ht
    · cases h
  | .enum a, m, c, e, X, h, g => by
    have h : c_enum a (chk a) m c e = true := h
    unfold c_enum at h
    split at h
    · simp only [Bool.and_eq_true, Bool.not_eq_true', decide_eq_true_eq] at h
      obtain ⟨⟨⟨⟨rfl, h2⟩, h3⟩, h4⟩, rfl⟩ := h
      obtain ⟨g1, g2⟩ := g.bltn h2
      intro tg ht
      cases tg with
      | Tuple es k p => exact si_enum (show SE G X cf c.own a _ from chk_ok a .e c _ X h3 g) h4 g1 g2
      | _ => cases ht
    · cases h
  | .idx a x, m, c, e, X, h, g => by
    have h : c_idx a x (chk a) (chk x) m c e = true := h
    unfold c_idx at h
    split at h
    · rename_i ea at_ apos ex pos _
      simp only [Bool.and_eq_true, Bool.not_eq_true', decide_eq_true_eq] at h
      obtain ⟨⟨⟨⟨⟨⟨rfl, h2⟩, h3⟩, h4⟩, h5⟩, h6⟩, rfl⟩ := h
      cases ea with
      | Name nm p => exact se_idx (show SE G X cf c.own a _ from chk_ok a .e c _ X h3 g) (show SE G X cf c.own x _ from chk_ok x .e c _ X h4 g) h5 rfl h6
      | _ => cases h2
    · cases h
  | .rgv a, m, c, e, X, h, g => by
    have h : c_rgv a (chk a) m c e = true := h
    unfold c_rgv at h
    split at h
    · simp only [Bool.and_eq_true, Bool.not_eq_true', decide_eq_true_eq] at h
      obtain ⟨⟨⟨⟨rfl, h2⟩, h3⟩, h4⟩, rfl⟩ := h
      obtain ⟨g1, g2⟩ := g.bltn h2
      exact se_rgv (show SE G X cf c.own a _ from chk_ok a .e c _ X h3 g) g1 g2 h4
    · cases h
  | .dnew, m, c, e, X, h, g => by
    have h : c_dnew m c e = true := h
    unfold c_dnew at h
    split at h
    · cases m with
      | f => exact sf_dnew
      | e => exact sf_dnew.seO dnew_dc
      | t => cases h
      | s => cases h
    · cases h
  | .dd a b, m, c, e, X, h, g => by
    have h : c_dd a b (chk a) (chk b) m c e = true := h
    unfold c_dd at h
    split at h
    · rename_i ea eb pos _
      simp only [Bool.and_eq_true] at h
      have hf : SF G X cf c.own (.dd a b) (.Dict [some ea] [eb] pos) := sf_dd (show SE G X cf c.own a _ from chk_ok a .e c _ X h.1.1 g) (show SE G X cf c.own b _ from chk_ok b .e c _ X h.1.2 g)
      cases m with
      | f => exact hf
      | e => exact hf.seO dd_dc
      | t => cases h.2
      | s => cases h.2
    · cases h
  | .dcomp a q t src cd, m, c, e, X, h, g => by
    have h : c_dcomp a q t src cd (chk a) (chk q) (chk src) (chk cd) m c e = true := h
    unfold c_dcomp at h
    split at h
    · rename_i ka elt tg iter ifs scope pos _
      simp only [Bool.and_eq_true, Bool.not_eq_true'] at h
      obtain ⟨⟨⟨⟨⟨⟨⟨⟨⟨⟨h1, h2⟩, h3⟩, h4⟩, h5⟩, h6⟩, h7a⟩, h7⟩, h8⟩, hnm⟩, h9⟩ := h
      have hdj : ∀ i ∈ tgSlots t, i ∉ c.own := fun i hi => by simpa using List.all_eq_true.mp h2 i hi
      have hcd : ∀ (s : Shared) (H0 : Hp) (C : Addr) (cl : List (Str × Addr)) (fp : List Addr), SC G (X.blk s H0 scope (compEnvC scope cl C X.env) fp) cf c.own cd ifs := by
        intro s H0 C cl fp
        split at h9
        · split at h9
          · exact sc_nil
          · cases h9
        · exact sc_one (notP_ok h8) (show ST G _ cf (c.blk scope).own cd _ from chk_ok cd .t (c.blk scope) _ _ h9 (g.blk scope s H0 C cl fp))
        · cases h9
      have hf : SF G X cf c.own (.dcomp a q t src cd) (.DictComp ka elt [⟨tg, iter, ifs, 0⟩] scope pos) := sf_dcomp g.calm g.nd hdj (chk_ok src .s c _ X h3 g tg h4) (blk_own g h1) (own_map _ _) (fun s H0 C cl fp => tg_ok (g.blk scope s H0 C cl fp) t tg h6) hcd (notP_ok h8)
        (fun s H0 C cl fp => show SE G _ cf (c.blk scope).own a _ from chk_ok a .e (c.blk scope) _ _ h7a (g.blk scope s H0 C cl fp))
        (fun s H0 C cl fp => show SE G _ cf (c.blk scope).own q _ from chk_ok q .e (c.blk scope) _ _ h7 (g.blk scope s H0 C cl fp)) (set_no h5)
      cases m with
      | f => exact hf
      | e => exact hf.seO dcomp_dc
      | t => cases hnm
      | s => cases hnm
    · cases h
  | .lc q t src cd, m, c, e, X, h, g => by
    have h : c_lc q t src cd (chk q) (chk src) (chk cd) m c e = true := h
    unfold c_lc at h
    split at h
    · rename_i elt tg iter ifs scope pos _
      simp only [Bool.and_eq_true, Bool.not_eq_true'] at h
      obtain ⟨⟨⟨⟨⟨⟨⟨⟨h1, h2⟩, h3⟩, h4⟩, h5⟩, h6⟩, h7⟩, h8⟩, h9⟩ := h
      have hdj : ∀ i ∈ tgSlots t, i ∉ c.own := fun i hi => by simpa using List.all_eq_true.mp h2 i hi
      have hcd : ∀ (s : Shared) (H0 : Hp) (C : Addr) (cl : List (Str × Addr)) (fp : List Addr), SC G (X.blk s H0 scope (compEnvC scope cl C X.env) fp) cf c.own cd ifs := by
        intro s H0 C cl fp
        split at h9
        · split at h9
          · exact sc_nil
          · cases h9
        · exact sc_one (notP_ok h8) (show ST G _ cf (c.blk scope).own cd _ from chk_ok cd .t (c.blk scope) _ _ h9 (g.blk scope s H0 C cl fp))
        · cases h9
      have hf : SF G X cf c.own (.lc q t src cd) (.ListComp elt [⟨tg, iter, ifs, 0⟩] scope pos) := sf_lc g.calm g.nd hdj (chk_ok src .s c _ X h3 g tg h4) (blk_own g h1) (own_map _ _) (fun s H0 C cl fp => tg_ok (g.blk scope s H0 C cl fp) t tg h6) hcd (notP_ok h8)
        (fun s H0 C cl fp => show SE G _ cf (c.blk scope).own q _ from chk_ok q .e (c.blk scope) _ _ h7 (g.blk scope s H0 C cl fp)) (set_no h5)
      cases m with
      | f => exact hf
      | e => exact hf.se lc_lst
      | t => exact snd_e (m := .t) (fun z => by cases z) (fun i z => by cases z) rfl rfl (hf.se lc_lst)
      | s => exact snd_e (m := .s) (fun z => by cases z) (fun i z => by cases z) rfl rfl (hf.se lc_lst)
    · cases h
  | .lc2 q t src cd t' src' cd', m, c, e, X, h, g => by
    have h : c_lc2 q t src cd t' src' cd' (chk q) (chk src) (chk cd) (chk src') (chk cd') m c e = true := h
    unfold c_lc2 at h
    split at h
    · rename_i elt tg iter ifs tg1 iter1 ifs1 scope pos _
      simp only [Bool.and_eq_true, Bool.not_eq_true'] at h
      obtain ⟨⟨⟨⟨⟨⟨⟨⟨⟨⟨⟨⟨⟨⟨⟨h1, h2⟩, h3⟩, h4⟩, h5⟩, h6⟩, h7⟩, h8⟩, h8'⟩, n1⟩, h3'⟩, h4'⟩, h5'⟩, h6'⟩, h9⟩, h9'⟩ := h
      have hdj : ∀ i ∈ tgSlots t ++ tgSlots t', i ∉ c.own := fun i hi => by simpa using List.all_eq_true.mp h2 i hi
      have hcd : ∀ (s : Shared) (H0 : Hp) (C : Addr) (cl : List (Str × Addr)) (fp : List Addr), SC G (X.blk s H0 scope (compEnvC scope cl C X.env) fp) cf c.own cd ifs := by
        intro s H0 C cl fp
        split at h9
        · split at h9
          · exact sc_nil
          · cases h9
        · exact sc_one (notP_ok h8) (show ST G _ cf (c.blk scope).own cd _ from chk_ok cd .t (c.blk scope) _ _ h9 (g.blk scope s H0 C cl fp))
        · cases h9
      have hcd' : ∀ (s : Shared) (H0 : Hp) (C : Addr) (cl : List (Str × Addr)) (fp : List Addr), SC G (X.blk s H0 scope (compEnvC scope cl C X.env) fp) cf c.own cd' ifs1 := by
        intro s H0 C cl fp
        split at h9'
        · split at h9'
          · exact sc_nil
          · cases h9'
        · exact sc_one (notP_ok h8') (show ST G _ cf (c.blk scope).own cd' _ from chk_ok cd' .t (c.blk scope) _ _ h9' (g.blk scope s H0 C cl fp))
        · cases h9'
      have hf : SF G X cf c.own (.lc2 q t src cd t' src' cd') (.ListComp elt [⟨tg, iter, ifs, 0⟩, ⟨tg1, iter1, ifs1, 0⟩] scope pos) := sf_lc2 g.calm g.nd hdj (chk_ok src .s c _ X h3 g tg h4) (blk_own g h1) (own_map _ _) (fun s H0 C cl fp => tg_ok (g.blk scope s H0 C cl fp) t tg h6) hcd (notP_ok h8)
        (fun s H0 C cl fp => show SI G _ cf (c.blk scope).own src' tg1 iter1 from chk_ok src' .s (c.blk scope) _ _ h3' (g.blk scope s H0 C cl fp) tg1 h4') (notP_ok n1) (fun s H0 C cl fp => tg_ok (g.blk scope s H0 C cl fp) t' tg1 h6') hcd' (notP_ok h8')
        (fun s H0 C cl fp => show SE G _ cf (c.blk scope).own q _ from chk_ok q .e (c.blk scope) _ _ h7 (g.blk scope s H0 C cl fp)) (set_no h5) (set_no h5')
      cases m with
      | f => exact hf
      | e => exact hf.se lc2_lst
      | t => exact snd_e (m := .t) (fun z => by cases z) (fun i z => by cases z) rfl rfl (hf.se lc2_lst)
      | s => exact snd_e (m := .s) (fun z => by cases z) (fun i z => by cases z) rfl rfl (hf.se lc2_lst)
    · cases h
  | .mk0 nm, m, c, e, X, h, g => by
    have h : c_mk0 nm m c e = true := h
    unfold c_mk0 at h
    split at h
    · simp only [Bool.and_eq_true, decide_eq_true_eq, List.any_eq_true] at h
      obtain ⟨⟨⟨rfl, h2⟩, ⟨y, le, a'⟩, hy, h3, h4⟩, rfl⟩ := h
      have h3 : y = _ := h3
      have h4 : a' = none := h4
      subst h3 h4
      exact se_mk0 g.ef hy (g.glo h2)
    · cases h
  | .mk1 nm at_ a, m, c, e, X, h, g => by
    have h : c_mk1 nm at_ a (chk a) m c e = true := h
    unfold c_mk1 at h
    split at h
    · simp only [Bool.and_eq_true, decide_eq_true_eq, List.any_eq_true, Bool.not_eq_true'] at h
      obtain ⟨⟨⟨⟨⟨rfl, h2⟩, ⟨y, le, a'⟩, hy, h3, h4⟩, h5⟩, h6⟩, rfl⟩ := h
      have h3 : y = _ := h3
      have h4 : a' = some at_ := h4
      subst h3 h4
      exact se_mk1 g.ef hy (g.glo h2) (show SE G X cf c.own a _ from chk_ok a .e c _ X h5 g) h6
    · simp only [Bool.and_eq_true, decide_eq_true_eq, List.any_eq_true, Bool.not_eq_true'] at h
      obtain ⟨⟨⟨⟨⟨rfl, h2⟩, ⟨y, le, a'⟩, hy, h3, h4⟩, h5⟩, h6⟩, rfl⟩ := h
      have h3 : y = _ := h3
      have h4 : a' = some at_ := h4
      subst h3 h4 h6
      exact se_mkK g.ef hy (g.glo h2) (show SE G X cf c.own a _ from chk_ok a .e c _ X h5 g)
    · cases h
  | .att ns at_ a, m, c, e, X, h, g => by
    have h : c_att ns at_ a (chk a) m c e = true := h
    unfold c_att at h
    split at h
    · rename_i ea n pos
      simp only [Bool.and_eq_true, decide_eq_true_eq, List.any_eq_true, List.all_eq_true] at h
      obtain ⟨⟨⟨⟨rfl, h2⟩, h3⟩, h4⟩, rfl⟩ := h
      refine se_att g.ef (fun x hx => ?_) (show SE G X cf c.own a _ from chk_ok a .e c _ X h3 g) (nmSub_ok h4)
      obtain ⟨⟨y, le, a'⟩, hy, e1, e2⟩ := h2 x hx
      have e1 : y = x := e1
      have e2 : a' = some _ := e2
      subst e1 e2
      exact ⟨le, hy⟩
    · cases h
  | .isE ns a t, m, c, e, X, h, g => by
    have h : c_isE ns a t (chk a) m c e = true := h
    unfold c_isE at h
    split at h
    · rename_i x p ea et pos
      simp only [Bool.and_eq_true, decide_eq_true_eq, List.any_eq_true, List.all_eq_true, Bool.not_eq_true'] at h
      obtain ⟨⟨⟨⟨⟨⟨⟨rfl, h2⟩, h3⟩, h4⟩, h5⟩, h6⟩, h7⟩, rfl⟩ := h
      obtain ⟨g1, g2⟩ := g.bltn h2
      refine se_isE g.ef (fun z => by rw [z] at h7; cases h7) (fun x le hx => ?_) (fun x hx => g.glo hx) h6 (show SE G X cf c.own a _ from chk_ok a .e c _ X h4 g) h5 g1 g2
      obtain ⟨⟨y, le', a'⟩, hy, e1, e2⟩ := h3 (x, le) hx
      have e1 : y = x := e1
      have e2 : le' = le := e2
      subst e1 e2
      exact ⟨a', hy⟩
    · cases h
  | .pop i a, m, c, e, X, h, g => by
    have h : c_pop i a (chk a) m c e = true := h
    unfold c_pop at h
    split at h
    · rename_i x at_ apos p es pos _
      simp only [Bool.and_eq_true, decide_eq_true_eq] at h
      obtain ⟨⟨⟨⟨⟨rfl, h2⟩, h3⟩, h4⟩, h5⟩, rfl⟩ := h
      obtain ⟨g1, g2, g3, g4⟩ := g.name h2
      split at h5
      · have := no_of h5
        subst this
        exact se_pop g1 g2 g3 g4 h3 h4
      · simp only [Bool.and_eq_true, Bool.not_eq_true'] at h5
        exact se_popAt g1 g2 g3 g4 h3 h4 (no_ne h5.1.1) (show SE G X cf c.own a _ from chk_ok a .e c _ X h5.1.2 g) h5.2
      · cases h5
    · cases h
termination_by q => sizeOf q
theorem chks_ok : ∀ (qs : List E) (c : Ck) (es : List Expr) (X : Cx), chks qs c es = true → Good G c cf X → SOs G X cf c.own qs es
  | [], c, es, X, h, g => by
    have h : es.isEmpty = true := h
    rw [List.isEmpty_iff] at h
    subst h; exact sos_nil
  | q :: qs, c, es, X, h, g => by
    cases es with
    | nil => cases (show false = true from h)
    | cons e r =>
      have h : (opdC q c e (chk q .e c e) && chks qs c r && !(isStar e)) = true := h
      simp only [Bool.and_eq_true, Bool.not_eq_true'] at h
      exact sos_cons (g.opd h.1.1 fun r => chk_ok q .e c _ X r g) (chks_ok qs c _ X h.1.2 g) (ns_of h.2 _ _)
termination_by qs => sizeOf qs
theorem chkk_ok : ∀ (qs : List E) (c : Ck) (l : KwL) (X : Cx), chks qs c (l.map (·.2.1)) = true → Good G c cf X → SKs G X cf c.own qs (kwsOf l)
  | [], c, l, X, h, g => by
    cases l with
    | nil => exact sks_nil
    | cons t l => cases (show false = true from h)
  | q :: qs, c, l, X, h, g => by
    cases l with
    | nil => cases (show false = true from h)
    | cons t l =>
      have h : (opdC q c t.2.1 (chk q .e c t.2.1) && chks qs c (l.map (·.2.1)) && !(isStar t.2.1)) = true := h
      simp only [Bool.and_eq_true, Bool.not_eq_true'] at h
      exact sks_cons (g.opd h.1.1 fun r => chk_ok q .e c _ X r g) (chkk_ok qs c l X h.1.2 g)
termination_by qs => sizeOf qs
end
end
end Py
set_option Elab.async false
set_option linter.all false
set_option maxRecDepth 100000
set_option maxHeartbeats 1000000
/-! try: .. except A as a: .. except B as b: .. -/
namespace Py
open PySem PySem.Spec PyProof.Rows L2
/-- an exception of the body, on the ground of the row that tries -/
structure Air (X : Cx) (a : Addr) (B : Heap) (sI s' : Shared) (pins : List (Addr × Obj)) (σ : L2.St) (H : Hp) (cls : Value) (d : Option Addr) (h : Heap) : Prop where
  inv : Inv X pins σ H sI
  nb : ∀ b o, sI.heap.get? b = some o → b ∉ frs X.stack → B.get? b = some o
  up : sI.heap.UpToSlots h
  fl : HandSPX.FlyingZ B (X.env :: X.outer) a (Zc cls d) h
  na : H a = none
  os : s'.os = sI.os
  ag : AllBare s'.gens
/-- a clause: the class, the name and its slot, what its suite does -/
structure Cl where
  x : Str
  n : Str
  np : Pos
  pos : Pos
  b : Stmt
  c : Value
  i : Nat
  ts : Addr → Value → Option Addr → TS
  keep : Bool
def Cl.h (k : Cl) : ExceptHandler := .ExceptHandler (some (.Name k.x k.np)) (some k.n) [k.b] k.pos
/-- a slot is emptied at each end -/
def Ends.free (D : Ends) (i : Nat) : Ends where
  nx := fun σ' H' => D.nx (σ'.set i none) H'
  rt := D.rt
  bk := fun σ' H' => D.bk (σ'.set i none) H'
  ct := fun σ' H' => D.ct (σ'.set i none) H'
/-- the same, the error kept -/
def Ends.held (D : Ends) (i : Nat) (a : Addr) (cls : Value) (d : Option Addr) : Ends where
  nx := fun σ' H' => D.nx (σ'.set i none) (upd H' a (ErX cls d a))
  rt := fun _ _ => False
  bk := fun _ _ => False
  ct := fun _ _ => False
def Cl.ends (k : Cl) (D : Ends) (a : Addr) (cls : Value) (d : Option Addr) : Ends := match k.keep with
  | false => Ends.free D k.i
  | true => Ends.held D k.i a cls d
def wishes (K : PySem.W.Frag) (Wo : WX) (D : Ends) : List Cl → WX
  | [] => Wo
  | k :: ks => fun cls d σ H => ∃ t, PySem.W.exmOne K cls k.c = some t ∧
      (t = true → ∀ a, H a = none → k.ts a cls d (k.ends D a cls d) (σ.set k.i (some (.ref a))) H) ∧ (t = false → wishes K Wo D ks cls d σ H)
section
variable {X : Cx} {Wo : WX} {D : Ends}
structure ClOk (X : Cx) (k : Cl) : Prop where
  slot : X.N[k.i]? = some k.n
  loc : X.env.kindOf k.n = some .local
  names : Names X k.x k.c
  suite : ∀ (a : Addr) (oe : Obj) (cls : Value) (d : Option Addr) (pn : List (Addr × Obj)), Zc cls d oe → (∃ vs, oe.data = .fields vs) → PSs (X.suite a ((a, oe) :: pn)) [k.b] (k.ts a cls d)
theorem Air.seen {a : Addr} {B : Heap} {sI s' : Shared} {pins : List (Addr × Obj)} {σ : L2.St} {H : Hp} {cls : Value} {d : Option Addr} {h : Heap} (W : Air X a B sI s' pins σ H cls d h) (hf : X.env.frame = some X.env.locals) :
    ∃ oe, h.get? a = some oe ∧ Zc cls d oe ∧ (∃ vs, oe.data = .fields vs) ∧ Inv (X.suite a ((a, oe) :: (X.pn ++ pins))) [] σ H { s' with heap := h } := by
  have J : Inv X pins σ H { s' with heap := h } := W.inv.landed W.nb W.fl.1 W.up W.os W.ag
  obtain ⟨oe, vs, e1, e2, e3⟩ := W.fl.there
  have out : a ∉ frs (X.env :: X.outer) := by
    intro hm
    obtain ⟨_, o', e', nf⟩ := W.fl.2.2.1.mem hm
    rw [e1] at e'
    cases e'
    exact nf _ e3
  have n1 : a ≠ X.env.locals := fun z => out (List.mem_filterMap.mpr ⟨_, List.mem_cons_self, hf.trans (congrArg some z.symm)⟩)
  have n2 : a ∉ X.fs := by
    intro hm
    obtain ⟨e, he, q⟩ := List.mem_filterMap.mp hm
    exact out (List.mem_filterMap.mpr ⟨e, List.mem_cons_of_mem _ he, q⟩)
  exact ⟨oe, e1, e2, ⟨_, e3⟩, J.suite e1 e3 W.na n1 n2⟩
theorem keepE {a : Addr} {oe : Obj} {pins : List (Addr × Obj)} {σ : L2.St} {H : Hp} {s : Shared} {cls : Value} {d : Option Addr} (S : Inv (X.suite a ((a, oe) :: (X.pn ++ pins))) [] σ H s) (ok : X.Ok) (hz : Zc cls d oe) (hf : ∃ vs, oe.data = .fields vs) (hp : ∀ p ∈ X.pn ++ pins, p.1 ≠ a) (h0 : X.s_0.heap.get? a = none) :
    Inv X pins σ (upd H a (ErX cls d a)) s := by
  have J := S.unsuite ok
  obtain ⟨e1, e2, e3, e4, e5⟩ := S.pin (a, oe) (List.mem_append_left _ List.mem_cons_self)
  have e1 : s.heap.get? a = some oe := e1
  have e2 : H a = none := e2
  have e3 : a ≠ X.env.locals := e3
  have old : ∀ b u, H b = some u → upd H a (ErX cls d a) b = some u := fun b u z => by rw [upd_ne (ne_of_none z e2)]; exact z
  obtain ⟨vs, hf⟩ := hf
  refine { J with base := ?_, free := ?_, freeC := fun x c z => ?_, pin := fun p z => ?_, hok := fun b u z => ?_ }
  · have U := J.base
    refine ⟨U.keep, U.slot, fun b o z1 z2 z3 => ?_, U.there, fun b xs z => old _ _ (U.tups b xs z), fun b o u z => old _ _ (U.frzs b o u z), fun b ps z => let ⟨m, q⟩ := U.tbls b ps z; ⟨m, old _ _ q⟩⟩
    have : b ≠ a := fun y => by rw [y, h0] at z1; cases z1
    rw [upd_ne this]; exact U.free b o z1 z2 z3
  · rw [upd_ne (Ne.symm e3)]; exact J.free
  · have : c ≠ a := fun y => by
      obtain ⟨v, oc, z1, z2⟩ := J.cell x c z
      subst y
      rw [e1] at z1
      cases z1
      exact e5 v z2
    rw [upd_ne this]; exact J.freeC x c z
  · obtain ⟨z1, z2, z3⟩ := J.pin p z
    exact ⟨z1, by rw [upd_ne (hp p z)]; exact z2, z3⟩
  · by_cases y : b = a
    · subst y
      rw [upd_same] at z
      cases z
      exact erx_ok e1 hz ⟨vs, hf⟩
    · rw [upd_ne y] at z
      exact (J.hok b u z).stay (fun _ _ _ q => q) (fun b' q => old _ _ q) fun b' xs q => old _ _ q
theorem handled (hs : X.stack = X.env :: X.outer) (hf : X.env.frame = some X.env.locals) (hN : X.N.Nodup) (tk : Takes X Wo) (hex : X.ex = []) : ∀ (ks : List Cl), (∀ k ∈ ks, ClOk X k) →
    ∀ {a : Addr} {B : Heap} {sI s' : Shared} {pins : List (Addr × Obj)} {σ : L2.St} {H : Hp} {cls : Value} {d : Option Addr} {h : Heap}, Air X a B sI s' pins σ H cls d h → wishes X.K Wo D ks cls d σ H →
    wpAny (model X.prog X.w) X.A (handleBy (.ref a) X.env (ks.map Cl.h)) (SP X pins D) X.xe { s' with heap := h } := by
  intro ks
  induction ks with
  | nil =>
    intro _ a B sI s' pins σ H cls d h W w
    show wpAny _ X.A (handleBy (.ref a) X.env []) _ _ _
    refine wpAny_handleBy_nil ?_
    obtain ⟨_, _, _, oe, vs, T, oT, ts', he, _, hd, h1, _⟩ := id W.fl
    unfold PySem.passOn
    refine wpAny_bind (wpAny_field he hd h1 ?_)
    rw [if_neg (by simp)]
    have again : wpAny (model X.prog X.w) X.A (setFlight (.ref a) X.env.frame) (fun _ s4 => wpAny (model X.prog X.w) X.A (throw (.ref a) : Sem Flow) (SP X pins D) X.xe s4) X.xe { s' with heap := h } := by
      rw [hf]
      refine HandSPX.setFlight_upZ W.fl fun h4 hh up4 => ?_
      refine wpAny_throw (tk _ _ ⟨a, B, sI, pins, σ, H, cls, d, rfl, W.inv, W.nb, W.up.trans up4, ?_, W.na, W.os, W.ag, w⟩)
      rw [hs]
      exact .inr (.inr hh)
    first
      | exact wpAny_bind (wpAny_pure (wpAny_bind again))
      | exact wpAny_bind again
  | cons k ks ih =>
    intro hk a B sI s' pins σ H cls d h W w
    have K := hk k (List.mem_cons_self ..)
    obtain ⟨t, et, yes, no⟩ := w
    have J : Inv X pins σ H { s' with heap := h } := W.inv.landed W.nb W.fl.1 W.up W.os W.ag
    obtain ⟨oe, e1, e2, e3, S⟩ := W.seen hf
    show wpAny _ X.A (handleBy (.ref a) X.env (k.h :: ks.map Cl.h)) _ _ _
    refine wpAny_handleBy_cons (codeAny_handlers_test ?_) (by intro q; cases q)
    have ty : PySem.W.Looks (model X.prog X.w) h (typeOf (.ref a)) cls := fun _ Q E s q r => wpAny_typeOf_ref (q _ _ e1) (by rw [e2.1]; exact r)
    have one := PySem.W.exm_one (M := model X.prog X.w) J.kIn ty et
    have name : ∀ {Q : Value → Shared → Prop} {E : Value → Shared → Prop}, Q k.c { s' with heap := h } → wpAny (model X.prog X.w) (X.A.mark (some (.ref a))) (eval (.Name k.x k.np) X.env) Q E { s' with heap := h } := by
      intro Q E q
      obtain ⟨g1, g2, m | ⟨m, v, nn⟩⟩ := K.names
      · exact ld_glob (X := X.suite a ((a, oe) :: (X.pn ++ pins))) S g1 m q g2
      · exact ld_blt (X := X.suite a ((a, oe) :: (X.pn ++ pins))) S g1 m v q nn g2
    refine name (one.here ?_)
    cases t with
    | false => exact ih (fun k' z => hk k' (List.mem_cons_of_mem _ z)) W (no rfl)
    | true =>
      refine codeAny_handlers_suite_as ?_
      refine HandSPX.lands_againZ W.fl fun h4 fl4 up4 => ?_
      have W4 : Air X a B sI s' pins σ H cls d h4 := ⟨W.inv, W.nb, W.up.trans up4, fl4, W.na, W.os, W.ag⟩
      obtain ⟨oe4, z1, z2, z3, S4⟩ := W4.seen hf
      refine store_ok (X := X.suite a ((a, oe4) :: (X.pn ++ pins))) (v := .ref a) S4 hN K.slot (.inl K.loc) rfl (fun s5 S5 => ?_) (.inr K.loc)
      refine wpAny_mono ((K.suite a oe4 cls d (X.pn ++ pins) z2 z3).run [] s5 _ H _ S5 (yes rfl a W.na)) (fun f s6 r => ?_) fun _ _ z => z.elim
      have last : ∀ {σ6 : L2.St} {H6 : Hp} {Q : Shared → Prop}, Inv (X.suite a ((a, oe4) :: (X.pn ++ pins))) [] σ6 H6 s6 → (∀ s7, Inv X pins (σ6.set k.i none) H6 s7 → Q s7) →
          wpAny (model X.prog X.w) X.A (do bindName X.env k.n .none; unbindBehindTheSuite X.env k.n k.pos) (fun _ s7 => Q s7) X.xe s6 := fun S6 q => gone_ok (S6.unsuite W.inv.ok) hN K.slot K.loc q
      cases hk : k.keep with
      | true =>
        have ee : k.ends D a cls d = Ends.held D k.i a cls d := by unfold Cl.ends; rw [hk]
        rw [ee] at r
        cases f with
        | next =>
          obtain ⟨σ6, H6, S6, q⟩ := r
          have out : a ∉ frs X.stack := by
            rw [hs]
            intro hm
            obtain ⟨_, o', e', nf⟩ := W.fl.2.2.1.mem hm
            obtain ⟨oe', vs', y1, y2, y3⟩ := W.fl.there
            rw [y1] at e'
            cases e'
            exact nf _ y3
          have fr : sI.heap.get? a = none := by
            cases hI : sI.heap.get? a with
            | none => rfl
            | some o =>
              have := W.nb a o hI out
              rw [W.fl.2.1] at this
              cases this
          have fr0 : X.s_0.heap.get? a = none := by
            cases hI : X.s_0.heap.get? a with
            | none => rfl
            | some o =>
              obtain ⟨o', q'⟩ := W.inv.base.there a o hI (by rw [hex]; exact List.not_mem_nil)
              rw [fr] at q'
              cases q'
          have K6 := keepE S6 W.inv.ok z2 z3 (fun p hp y => by
            have := (W.inv.pin p hp).1
            rw [y, fr] at this
            cases this) fr0
          exact gone_ok K6 hN K.slot K.loc fun s7 J7 => ⟨_, _, J7, q⟩
        | ret u =>
          obtain ⟨v, σ6, H6, S6, rv, q⟩ := r
          exact q.elim
        | brk => exact r.choose_spec.choose_spec.2.elim
        | cont => exact r.choose_spec.choose_spec.2.elim
      | false =>
      have ee : k.ends D a cls d = Ends.free D k.i := by unfold Cl.ends; rw [hk]
      rw [ee] at r
      cases f with
      | ret u =>
        obtain ⟨v, σ6, H6, S6, rv, q⟩ := r
        exact last S6 fun _ J7 => ⟨v, _, _, J7, rv, q⟩
      | next => exact last r.choose_spec.choose_spec.1 fun _ J7 => ⟨_, _, J7, r.choose_spec.choose_spec.2⟩
      | brk => exact last r.choose_spec.choose_spec.1 fun _ J7 => ⟨_, _, J7, r.choose_spec.choose_spec.2⟩
      | cont => exact last r.choose_spec.choose_spec.1 fun _ J7 => ⟨_, _, J7, r.choose_spec.choose_spec.2⟩
variable {body : List Stmt} {pos : Pos} {tb : WX → TS}
theorem ps_try_all (hex : X.ex = []) (hs : X.stack = X.env :: X.outer) (hf : X.env.frame = some X.env.locals) (hN : X.N.Nodup) (ks : List Cl) (ne : ks ≠ []) (hk : ∀ k ∈ ks, ClOk X k) (tk : Takes X Wo)
    (hb : ∀ (W : WX) (pn : List (Addr × Obj)) (xe : Value → Shared → Prop), Takes (X.tr pn xe) W → PassesOwn (model X.prog X.w) X.A X.env xe → PSs (X.tr pn xe) body (tb W)) :
    PS X (.Try body (ks.map Cl.h) [] [] pos) (fun D σ H => tb (wishes X.K Wo D ks) D σ H) := by
  refine ⟨fun pins s σ H D I h => ?_⟩
  have ok := I.ok
  obtain ⟨k0, kr, e0⟩ : ∃ k0 kr, ks = k0 :: kr := by cases ks <;> first | exact absurd rfl ne | exact ⟨_, _, rfl⟩
  have e1 : ks.map Cl.h = k0.h :: kr.map Cl.h := by rw [e0]; rfl
  rw [e1]
  refine wpAny_Try_except ?_
  rw [← e1]
  let xe : Value → Shared → Prop := fun e s1 => wpAny (model X.prog X.w) X.A (noteFrame e X.env) (fun _ s2 => wpAny (model X.prog X.w) X.A (setFlight e none) (fun _ s3 => wpAny (model X.prog X.w) X.A (handleBy e X.env (ks.map Cl.h)) (SP X pins D) X.xe s3) X.xe s2) X.xe s1
  have takes : Takes (X.tr (X.pn ++ pins) xe) (wishes X.K Wo D ks) := by
    intro u s' z
    obtain ⟨a, B, sI, pins', σ', H', cls, d, rfl, J', nb, up, sky, na, os, ag, w⟩ := z
    refine Sky.land Zc.steady (by rw [ok.frames, hs]) hf (by rw [← hs]; exact sky) fun h3 fl3 up3 => ?_
    exact handled hs hf hN tk hex ks hk ⟨J'.ofTry ok, nb, up.trans up3, fl3, na, os, ag⟩ w
  refine wpAny_mono ((hb _ (X.pn ++ pins) xe takes PassesOwn.looking).run [] s σ H D (I.toTry _) h) (fun f s1 r => ?_) fun e s1 z => z
  cases f with
  | next =>
    obtain ⟨σ', H', J', q⟩ := r
    exact wpAny_execs_nil ⟨_, _, J'.ofTry ok, q⟩
  | ret u =>
    obtain ⟨v, σ', H', J', rv, q⟩ := r
    exact ⟨v, _, _, J'.ofTry ok, rv, q⟩
  | brk => exact ⟨_, _, r.choose_spec.choose_spec.1.ofTry ok, r.choose_spec.choose_spec.2⟩
  | cont => exact ⟨_, _, r.choose_spec.choose_spec.1.ofTry ok, r.choose_spec.choose_spec.2⟩
end
end Py
set_option Elab.async false
set_option linter.all false
set_option maxRecDepth 100000
set_option maxHeartbeats 4000000
/-! the check of statements -/
namespace Py
open PySem PySem.Spec PyProof.Rows L2
/-- the error classes by name: with a value (and what it is kept as), with none; which built-in class is above (LookupError, if true: yes or no) -/
structure Cs where
  one : List (Str × Nat × Str)
  none : List (Str × Nat)
  all : List Nat
  kit : List (Nat × Bool × Bool)
def baseN : Bool → String
  | true => "LookupError"
  | false => "ValueError"
structure GoodS (G : Exi) (c : Ck) (cs : Cs) (cf : CF) (X : Cx) : Prop where
  g : Good G c cf X
  own : PassesOwn (model X.prog X.w) X.A X.env X.xe
  stk : X.stack = X.env :: X.outer
  frm : X.env.frame = some X.env.locals
  hex : X.ex = []
  er : ∀ x k a, (x, k, a) ∈ cs.one → G.attr k = a ∧ ∃ (bm : List Value) (newId : String) (fI : Addr) (r : Nat), ErrT X.K X.mg x a bm newId (G.adr k) fI ∧ (a = "number" ∨ a = "word") ∧ Room r X.A ∧ (x == ("__debug__" : Str)) = false
  en : ∀ x k, (x, k) ∈ cs.none → ∃ (bm : List Value) (newId : String), ErrN X.K X.mg x bm newId (G.adr k) ∧ (x == ("__debug__" : Str)) = false
  exm : ∀ k ∈ cs.all, ∀ j ∈ cs.all, PySem.W.exmOne X.K (.ref (G.adr k)) (.ref (G.adr j)) = some (decide (j = k))
  kit : ∀ k z b, (k, z, b) ∈ cs.kit → PySem.W.kitOne X.K (.ref (G.adr k)) (.type (baseN z)) = some b
  kitn : X.mg (Str.ofString "LookupError") = Option.none ∧ X.mg (Str.ofString "ValueError") = Option.none
theorem GoodS.tr {G : Exi} {c : Ck} {cs : Cs} {cf : CF} {X : Cx} (g : GoodS G c cs cf X) (pn : List (Addr × Obj)) (xe : Value → Shared → Prop) (h : PassesOwn (model X.prog X.w) X.A X.env xe) : GoodS G c cs cf (X.tr pn xe) where
  g := ⟨g.g.N, g.g.nd, g.g.sc, g.g.calm, g.g.fn, g.g.un, g.g.blt, fun x f hx => ⟨(g.g.call x f hx).ex⟩, g.g.ef⟩
  own := h
  stk := g.stk
  frm := g.frm
  hex := g.hex
  er := g.er
  en := g.en
  exm := g.exm
  kit := g.kit
  kitn := g.kitn
def tgN (c : Ck) (i : Nat) (x : Str) : Bool := decide (c.N[i]? = some x) && (match c.sc.names.lookup x with
  | some .local => true
  | some .cell => c.fnB x
  | _ => false)
theorem tgN_ok {G : Exi} {c : Ck} {cf : CF} {X : Cx} (g : Good G c cf X) {i : Nat} {x : Str} (h : tgN c i x = true) : X.N[i]? = some x ∧ Loc X.env.scope x ∧ (X.fn x = true ∨ X.env.scope.names.lookup x = some .local) := by
  unfold tgN at h
  simp only [Bool.and_eq_true, decide_eq_true_eq] at h
  obtain ⟨h1, h2⟩ := h
  refine ⟨g.N ▸ h1, ?_⟩
  split at h2
  · rename_i z
    refine ⟨.inl ?_, .inr ?_⟩ <;> rw [g.sc] <;> exact z
  · rename_i z
    refine ⟨.inr ?_, .inl (g.fn x h2)⟩
    rw [g.sc]; exact z
  · cases h2
/-- the comprehension does not store by itself: the name stands on another row -/
def offRow (c : Ck) (x : Str) (p' : Pos) (e : Expr) : Bool := match e with
  | .ListComp _ _ s pos => !(p'.line == pos.line) || !(c.sc.names.lookup x == some .local) || s.names.any fun (n, k) => n == x && (k == .local || k == .cell)
  | .DictComp _ _ _ s pos => !(p'.line == pos.line) || !(c.sc.names.lookup x == some .local) || s.names.any fun (n, k) => n == x && (k == .local || k == .cell)
  | _ => false
theorem sw_off {c : Ck} {x : Str} {p' : Pos} {e : Expr} {env : PySem.Env} (hs : env.scope = c.sc) (h : offRow c x p' e = true) (l : Nat) : swapsWith e (some (.Name x p')) l env = pure false := by
  have ek : env.kindOf x = c.sc.names.lookup x := by show env.scope.names.lookup x = _; rw [hs]
  have key : ∀ (a b d n : Bool), (!d || !b || n) = true → (a && b && d && !n) = false := by decide
  unfold offRow at h
  split at h
  · rename_i elt gs scope pos
    unfold swapsWith
    simp only [Expr.pos, ek]
    rw [key _ _ _ _ h]
  · rename_i k v gs scope pos
    unfold swapsWith
    simp only [Expr.pos, ek]
    rw [key _ _ _ _ h]
  · cases h
def s_lc (o : Bool) (i : Nat) (q : E) (c : Ck) (st : Stmt) : Bool := match q with
  | .lc q t src cd => (match st with
    | .Assign [.Name x p'] (.ListComp elt [⟨tg, iter, ifs, 0⟩] scope pos) _ => decide (c.N[i]? = some x) && decide (c.sc.names.lookup x = some .local) && (match c.sc.kind with
      | .function => true
      | _ => false) && (p'.line == pos.line) && !(scope.names.any fun (n, k) => n == x && (k == .local || k == .cell)) && c_lc q t src cd (chk q) (chk src) (chk cd) .f c (.ListComp elt [⟨tg, iter, ifs, 0⟩] scope pos) && (if o = true then decide (i ∈ c.own) else decide (i ∉ c.own))
    | _ => false)
  | _ => false
def s_set (i : Nat) (q : E) (c : Ck) (st : Stmt) : Bool := match st with
  | .Assign [.Name x p'] e _ => tgN c i x && decide (i ∉ c.own) && (!(isComp e) || offRow c x p' e) && chk q .e c e
  | _ => false
def s_own (i : Nat) (q : E) (c : Ck) (st : Stmt) : Bool := match st with
  | .Assign [.Name x p'] e _ => tgN c i x && decide (i ∈ c.own) && (!(isComp e) || offRow c x p' e) && chk q .f c e
  | _ => false
def isNewE : E → Bool
  | .dnew => true
  | .dd _ _ => true
  | .dcomp _ _ _ _ _ => true
  | q => isLst q
def valC (o : Bool) (q : E) (c : Ck) (e : Expr) : Bool := if o = true then isNewE q && chk q .f c e else chk q .e c e
def s_par (is : List (Nat × Bool)) (qs : List E) (c : Ck) (st : Stmt) : Bool := match is, qs, st with
  | [(i, b1), (j, b2)], [q1, q2], .Assign [.Tuple [.Name x px, .Name y py] kt pt] (.Tuple [a, b] k2 pt2) _ => decide (c.N[i]? = some x) && decide (c.N[j]? = some y) && decide (i ≠ j) && decide (c.sc.names.lookup x = some .local) && decide (c.sc.names.lookup y = some .local) && !(isStar a) && !(isStar b) && valC b1 q1 c a && valC b2 q2 c b &&
      (if b1 = true then decide (i ∈ c.own) else decide (i ∉ c.own)) && (if b2 = true then decide (j ∈ c.own) else decide (j ∉ c.own)) && decide (x ≠ y) && (py.line == px.line) && (match c.sc.kind with
      | .function => true
      | _ => false) && !([a, b].all (foldedForSure 8)) && !([a, b].all (constantsAlone 8))
  | _, _, _ => false
def s_par3 (is : List (Nat × Bool)) (qs : List E) (c : Ck) (st : Stmt) : Bool := match is, qs, st with
  | [(i, b1), (j, b2), (l, b3)], [q1, q2, q3], .Assign [.Tuple [.Name x px, .Name y py, .Name z pz] kt pt] (.Tuple [a, b, d] k2 pt2) _ => !b1 && !b2 && !b3 && decide (c.N[i]? = some x) && decide (c.N[j]? = some y) && decide (c.N[l]? = some z) && decide (i ≠ j) && decide (i ≠ l) && decide (j ≠ l) &&
      decide (c.sc.names.lookup x = some .local) && decide (c.sc.names.lookup y = some .local) && decide (c.sc.names.lookup z = some .local) && !(isStar a) && !(isStar b) && !(isStar d) && chk q1 .e c a && chk q2 .e c b && chk q3 .e c d &&
      decide (i ∉ c.own) && decide (j ∉ c.own) && decide (l ∉ c.own) && decide (x ≠ y) && decide (x ≠ z) && decide (y ≠ z) && (py.line == px.line) && (pz.line == px.line) && (match c.sc.kind with
      | .function => true
      | _ => false) && !([a, b, d].all (foldedForSure 8)) && !([a, b, d].all (constantsAlone 8))
  | _, _, _ => false
/-- the same by a tuple -/
def s_parU (is : List (Nat × Bool)) (qs : List E) (c : Ck) (st : Stmt) : Bool := match is, qs, st with
  | [(i, b1), (j, b2)], [q1, q2], .Assign [.Tuple [.Name x px, .Name y py] kt pt] (.Tuple [a, b] k2 pt2) _ => tgN c i x && tgN c j y && decide (i ≠ j) && !(isStar a) && !(isStar b) && valC b1 q1 c a && valC b2 q2 c b &&
      (if b1 = true then decide (i ∈ c.own) else decide (i ∉ c.own)) && (if b2 = true then decide (j ∈ c.own) else decide (j ∉ c.own)) && (([Expr.Name x px, Expr.Name y py].any fun
    | .Name id _ => !(c.sc.names.lookup id == some .local)
    | _ => true) || [a, b].all (foldedForSure 8))
  | _, _, _ => false
/-- the stores are not swapped: a name is a cell, or all is written -/
def noSwap (c : Ck) (ts vs : List Expr) : Bool := (ts.any fun
    | .Name id _ => !(c.sc.names.lookup id == some .local)
    | _ => true) || vs.all (foldedForSure 8)
theorem filterMap_full {α β : Type} {f : α → Option β} : ∀ {l : List α}, (l.filterMap f).length = l.length → ∀ x ∈ l, f x ≠ none
  | [], _, x, h => nomatch h
  | a :: l, e, x, h => by
    have le := List.length_filterMap_le f l
    cases q : f a with
    | none =>
      rw [List.filterMap_cons_none q, List.length_cons] at e
      omega
    | some b =>
      rw [List.filterMap_cons_some q, List.length_cons, List.length_cons] at e
      rcases List.mem_cons.mp h with z | z
      · rw [z, q]; exact fun w => nomatch w
      · exact filterMap_full (by omega) x z
theorem no_sw {c : Ck} {ts vs : List Expr} {kt kv : Nat} {pt pv : Pos} {env : PySem.Env} (hs : env.scope = c.sc) (h : noSwap c ts vs = true) : swappedStores [.Tuple ts kt pt] (.Tuple vs kv pv) env = pure none := by
  unfold swappedStores
  dsimp only
  split
  · rfl
  split
  · rfl
  split
  · rfl
  · rename_i hn
    split
    · rfl
    · rename_i hf
      exfalso
      unfold noSwap at h
      rcases Bool.or_eq_true_iff.mp h with h | h
      · rw [List.any_eq_true] at h
        obtain ⟨x, hx, hk⟩ := h
        rw [Bool.or_eq_true, not_or] at hn
        have hl := hn.1
        simp only [bne_iff_ne, ne_eq, Decidable.not_not] at hl
        have := filterMap_full hl x hx
        revert this hk
        cases x with
        | Name id pos =>
          intro hk this
          have e : env.kindOf id = c.sc.names.lookup id := by show env.scope.names.lookup id = _; rw [hs]
          dsimp only at hk this
          rw [e] at this
          have hk : (c.sc.names.lookup id == some .local) = false := by simpa using hk
          rw [hk] at this
          exact this rfl
        | _ => intro _ this; exact this rfl
      · exact hf h
def s_unp (t : Tg) (q : E) (c : Ck) (st : Stmt) : Bool := match st with
  | .Assign [tg] e _ => tgC c t tg && chk q .e c e && (match tg with
    | .Tuple .. => true
    | _ => false) && (match e with
    | .Tuple vs _ _ => (match tg with
      | .Tuple ts _ _ => noSwap c ts vs
      | _ => false)
    | _ => true)
  | _ => false
def s_put (i : Nat) (k q : E) (c : Ck) (st : Stmt) : Bool := match st with
  | .Assign [.Subscript (.Name x _) ek _] e _ => c.nm i x && decide (i ∈ c.own) && !(isSlice ek) && chk q .e c e && chk k .e c ek
  | _ => false
def s_del (i : Nat) (k : E) (c : Ck) (st : Stmt) : Bool := match st with
  | .Delete [.Subscript (.Name x _) ek _] _ => c.nm i x && decide (i ∈ c.own) && chk k .e c ek
  | _ => false
def s_aug (o : Bop) (i : Nat) (q : E) (c : Ck) (st : Stmt) : Bool := match o, st with
  | .add, .AugAssign (.Name x _) .Add e _ => tgN c i x && decide (i ∉ c.own) && chk q .e c e
  | .sub, .AugAssign (.Name x _) .Sub e _ => tgN c i x && decide (i ∉ c.own) && chk q .e c e
  | _, _ => false
def s_ex (q : E) (c : Ck) (st : Stmt) : Bool := match st with
  | .Expr e _ => !(isComp e) && chk q .e c e
  | _ => false
def s_app (i : Nat) (q : E) (c : Ck) (st : Stmt) : Bool := match st with
  | .Expr (.Call (.Attribute (.Name x _) a apos) [e] [] cpos) _ => decide (a = Str.ofString "append") && c.nm i x && decide (i ∈ c.own) && (apos.endLine == cpos.line) && !(isStar e) && chk q .e c e
  | _ => false
def s_ext (i : Nat) (q : E) (c : Ck) (st : Stmt) : Bool := match st with
  | .Expr (.Call (.Attribute (.Name x _) a apos) [e] [] cpos) _ => decide (a = Str.ofString "extend") && c.nm i x && decide (i ∈ c.own) && (apos.endLine == cpos.line) && !(isStar e) && chk q .e c e
  | _ => false
def s_ret (q : E) (c : Ck) (fr : Bool) (st : Stmt) : Bool := match st with
  | .Return (some e) _ => if fr = true then (match q with
      | .mv i => (match e with
        | .Name x _ => c.nm i x && decide (i ∈ c.own) && decide (i ≠ 0)
        | _ => false)
      | q => isLst q && chk q .f c e)
    else chk q .e c e
  | _ => false
def s_raise (k : Nat) (q : E) (c : Ck) (cs : Cs) (st : Stmt) : Bool := match st with
  | .Raise (some (.Call (.Name x _) [ea] [] _)) none _ => (cs.one.any fun t => decide (t.1 = x) && decide (t.2.1 = k)) && c.gl x && !(isStar ea) && !(isNo q) && chk q .e c ea
  | .Raise (some (.Call (.Name x _) [] [] _)) none _ => decide ((x, k) ∈ cs.none) && isNo q && c.gl x
  | _ => false
def isDoc : Stmt → Bool
  | .Expr (.Constant (.str _) _ _) _ => true
  | _ => false
/-- the first row may be a docstring -/
def undoc : List Stmt → List Stmt
  | st :: sts => if isDoc st = true then sts else st :: sts
  | [] => []
section
variable {G : Exi} {cf : CF}
theorem sw_either {c : Ck} {x : Str} {p' : Pos} {e : Expr} {env : PySem.Env} (hs : env.scope = c.sc) (h : (!(isComp e) || offRow c x p' e) = true) (l : Nat) : swapsWith e (some (.Name x p')) l env = pure false := by
  rcases Bool.or_eq_true_iff.mp h with h | h
  · exact sw_no (by simpa using h) _ _ _
  · exact sw_off hs h _
theorem s_set_ok {i : Nat} {q : E} {c : Ck} {cs : Cs} {fr tt : Bool} {st : Stmt} {X : Cx} (g : GoodS G c cs cf X) (h : s_set i q c st = true) : SS G X cf c.own fr tt (.set i q) st := by
  unfold s_set at h
  split at h
  · have h' := h
    rw [Bool.and_eq_true, Bool.and_eq_true, Bool.and_eq_true, decide_eq_true_eq] at h'
    obtain ⟨⟨⟨h1, h2⟩, h3⟩, h4⟩ := h'
    obtain ⟨g1, g2, g3⟩ := tgN_ok g.g h1
    exact ss_set g.g.nd g1 g2 g3 h2 (sw_either g.g.sc h3 _) (show SE G X cf c.own q _ from chk_ok q .e c _ X h4 g.g)
  · cases h
theorem s_own_ok {i : Nat} {q : E} {c : Ck} {cs : Cs} {fr tt : Bool} {st : Stmt} {X : Cx} (g : GoodS G c cs cf X) (h : s_own i q c st = true) : SS G X cf c.own fr tt (.own i q) st := by
  unfold s_own at h
  split at h
  · have h' := h
    rw [Bool.and_eq_true, Bool.and_eq_true, Bool.and_eq_true, decide_eq_true_eq] at h'
    obtain ⟨⟨⟨h1, h2⟩, h3⟩, h4⟩ := h'
    obtain ⟨g1, g2, g3⟩ := tgN_ok g.g h1
    exact ss_own g.g.nd g1 g2 g3 h2 (sw_either g.g.sc h3 _) (show SF G X cf c.own q _ from chk_ok q .f c _ X h4 g.g)
  · cases h
theorem s_lc_ok {o : Bool} {i : Nat} {q : E} {c : Ck} {cs : Cs} {fr tt : Bool} {st : Stmt} {X : Cx} (g : GoodS G c cs cf X) (h : s_lc o i q c st = true) : SS G X cf c.own fr tt (if o = true then .own i q else .set i q) st := by
  unfold s_lc at h
  split at h
  · rename_i q t src cd
    split at h
    · rename_i x p' elt tg iter ifs scope pos spos
      simp only [Bool.and_eq_true, decide_eq_true_eq, Bool.not_eq_true'] at h
      obtain ⟨⟨⟨⟨⟨⟨k1, k2⟩, k3⟩, k4⟩, k5⟩, k6⟩, k7⟩ := h
      have hk : X.env.scope.kind = .function := by
        rw [g.g.sc]
        split at k3
        · assumption
        · cases k3
      have hl : X.env.scope.names.lookup x = some .local := by rw [g.g.sc]; exact k2
      have k6 : (_ : Bool) = true := k6
      unfold c_lc at k6
      simp only [Bool.and_eq_true, Bool.not_eq_true'] at k6
      obtain ⟨⟨⟨⟨⟨⟨⟨⟨h1, h2⟩, h3⟩, h4⟩, h5⟩, h6⟩, h7⟩, h8⟩, h9⟩ := k6
      have hdj : ∀ i ∈ tgSlots t, i ∉ c.own := fun i hi => by simpa using List.all_eq_true.mp h2 i hi
      have hcd : ∀ (s : Shared) (H0 : Hp) (C : Addr) (cl : List (Str × Addr)) (fp : List Addr), SC G (X.blk s H0 scope (compEnvC scope cl C X.env) fp) cf c.own cd ifs := by
        intro s H0 C cl fp
        split at h9
        · split at h9
          · exact sc_nil
          · cases h9
        · exact sc_one (notP_ok h8) (show ST G _ cf (c.blk scope).own cd _ from chk_ok cd .t (c.blk scope) _ _ h9 (g.g.blk scope s H0 C cl fp))
        · cases h9
      refine ss_setLc g.g.nd (by rw [g.g.N]; exact k1) hl (sw_true hk hl k4 k5) g.g.calm hdj (chk_ok src .s c _ X h3 g.g tg h4) (blk_own g.g h1) (own_map _ _) (fun s H0 C cl fp => tg_ok (g.g.blk scope s H0 C cl fp) t tg h6) hcd (notP_ok h8)
        (fun s H0 C cl fp => show SE G _ cf (c.blk scope).own q _ from chk_ok q .e (c.blk scope) _ _ h7 (g.g.blk scope s H0 C cl fp)) (set_no h5) o ?_
      cases o <;> simpa using k7
    · cases h
  · cases h
theorem isNew_ok {q : E} (h : isNewE q = true) : ∀ η d η', ev cf q η = .ok (d, η') → (∃ ds, d = .lst ds) ∨ ∃ ks ds, d = .dc ks ds := by
  have key : isLst q = true ∨ q = .dnew ∨ (∃ a b, q = .dd a b) ∨ ∃ a b t s c, q = .dcomp a b t s c := by
    cases q <;> first | exact .inl h | exact .inr (.inl rfl) | exact .inr (.inr (.inl ⟨_, _, rfl⟩)) | exact .inr (.inr (.inr ⟨_, _, _, _, _, rfl⟩))
  rcases key with h | rfl | ⟨a, b, rfl⟩ | ⟨a, b, t, s, c, rfl⟩
  · exact fun η d η' z => .inl (isLst_ok h η d η' z)
  · exact dnew_dc
  · exact dd_dc
  · exact dcomp_dc
theorem val_ok {o : Bool} {q : E} {c : Ck} {e : Expr} {X : Cx} (g : Good G c cf X) (h : valC o q c e = true) : VE G X cf c.own o q e := by
  cases o with
  | false => exact (show SE G X cf c.own q e from chk_ok q .e c _ X h g)
  | true =>
    have h : (isNewE q && chk q .f c e) = true := h
    rw [Bool.and_eq_true] at h
    exact ⟨show SF G X cf c.own q e from chk_ok q .f c _ X h.2 g, isNew_ok h.1⟩
theorem pair_sw {x y : Str} {px py pt pt2 : Pos} {kt k2 : Nat} {a b : Expr} {env : PySem.Env} (hk : env.scope.kind = .function) (hx : env.scope.names.lookup x = some .local) (hy : env.scope.names.lookup y = some .local) (hl : (py.line == px.line) = true)
    (ha : isStar a = false) (hb : isStar b = false) (hf : [a, b].all (foldedForSure 8) = false) (hc : [a, b].all (constantsAlone 8) = false) (hne : x ≠ y) :
    swappedStores [.Tuple [.Name x px, .Name y py] kt pt] (.Tuple [a, b] k2 pt2) env = pure (some [x, y]) := by
  have kx : env.kindOf x = some .local := hx
  have ky : env.kindOf y = some .local := hy
  have hbk : env.blockKind = .function := by unfold Env.blockKind; rw [hk]; rfl
  have e1 : ([a, b].any fun | .Starred .. => true | _ => false) = false := by
    cases a <;> cases b <;> first | rfl | exact absurd ha (by decide) | exact absurd hb (by decide) | (exfalso; exact Bool.noConfusion ha) | (exfalso; exact Bool.noConfusion hb)
  have hd : (y == x) = false := by simpa using Ne.symm hne
  have e2 : ([x, y] : List Str).eraseDups.length = 2 := by
    rw [List.eraseDups_cons]
    simp [hd]
    rw [List.eraseDups_cons]
    simp
  unfold swappedStores
  simp only [List.length_cons, List.length_nil, hbk, List.head?_cons, Option.map_some, Option.getD_some, Expr.pos, List.filterMap_cons, List.filterMap_nil, kx, ky, hl, beq_self_eq_true, Bool.and_self, if_true, hf, hc]
  rw [if_neg (by decide)]
  refine (if_neg ?_).trans ?_
  · intro z
    exact absurd (e1.symm.trans z) (by decide)
  · rw [e2, if_neg (by decide), if_neg Bool.false_ne_true, if_neg Bool.false_ne_true]
theorem tri_sw {x y z : Str} {px py pz pt pt2 : Pos} {kt k2 : Nat} {a b d : Expr} {env : PySem.Env} (hk : env.scope.kind = .function) (hx : env.scope.names.lookup x = some .local) (hy : env.scope.names.lookup y = some .local) (hz : env.scope.names.lookup z = some .local)
    (hl : (py.line == px.line) = true) (hl2 : (pz.line == px.line) = true) (ha : isStar a = false) (hb : isStar b = false) (hd : isStar d = false) (hf : [a, b, d].all (foldedForSure 8) = false) (hc : [a, b, d].all (constantsAlone 8) = false) (n1 : x ≠ y) (n2 : x ≠ z) (n3 : y ≠ z) :
    swappedStores [.Tuple [.Name x px, .Name y py, .Name z pz] kt pt] (.Tuple [a, b, d] k2 pt2) env = pure (some [x, y, z]) := by
  have kx : env.kindOf x = some .local := hx
  have ky : env.kindOf y = some .local := hy
  have kz : env.kindOf z = some .local := hz
  have hbk : env.blockKind = .function := by unfold Env.blockKind; rw [hk]; rfl
  have st : ∀ e : Expr, isStar e = false → (match e with | .Starred .. => true | _ => false) = false := fun e h => by cases e <;> first | rfl | cases h
  have e1 : ([a, b, d].any fun | .Starred .. => true | _ => false) = false := by
    simp only [List.any_cons, List.any_nil, Bool.or_false]
    rw [st a ha, st b hb, st d hd]; rfl
  have d1 : (y == x) = false := by simpa using Ne.symm n1
  have d2 : (z == x) = false := by simpa using Ne.symm n2
  have d3 : (z == y) = false := by simpa using Ne.symm n3
  have e2 : ([x, y, z] : List Str).eraseDups.length = 3 := by
    rw [List.eraseDups_cons]
    simp [d1, d2]
    rw [List.eraseDups_cons]
    simp [d3]
    rw [List.eraseDups_cons]
    simp
  unfold swappedStores
  simp only [List.length_cons, List.length_nil, hbk, List.head?_cons, Option.map_some, Option.getD_some, Expr.pos, List.filterMap_cons, List.filterMap_nil, kx, ky, kz, hl, hl2, beq_self_eq_true, Bool.and_self, if_true, hf, hc]
  rw [if_neg (by decide)]
  refine (if_neg ?_).trans ?_
  · intro w
    exact absurd (e1.symm.trans w) (by decide)
  · rw [e2, if_neg (by decide), if_neg Bool.false_ne_true, if_neg Bool.false_ne_true]
theorem s_par3_ok {is : List (Nat × Bool)} {qs : List E} {c : Ck} {cs : Cs} {fr tt : Bool} {st : Stmt} {X : Cx} (g : GoodS G c cs cf X) (h : s_par3 is qs c st = true) : SS G X cf c.own fr tt (.par is qs) st := by
  unfold s_par3 at h
  split at h
  · rename_i i b1 j b2 l b3 q1 q2 q3 x px y py z pz kt pt a b d k2 pt2 pos
    simp only [Bool.and_eq_true, decide_eq_true_eq, Bool.not_eq_true'] at h
    obtain ⟨⟨⟨⟨⟨⟨⟨⟨⟨⟨⟨⟨⟨⟨⟨⟨⟨⟨⟨⟨⟨⟨⟨⟨⟨⟨⟨⟨rfl, rfl⟩, rfl⟩, h1⟩, h2⟩, h3⟩, h4⟩, h5⟩, h6⟩, h7⟩, h8⟩, h9⟩, h10⟩, h11⟩, h12⟩, h13⟩, h14⟩, h15⟩, h16⟩, h17⟩, h18⟩, h19⟩, h20⟩, h21⟩, h22⟩, h23⟩, h24⟩, h25⟩, h26⟩ := h
    have hk : X.env.scope.kind = .function := by
      rw [g.g.sc]
      split at h24
      · assumption
      · cases h24
    have hx : X.env.scope.names.lookup x = some .local := by rw [g.g.sc]; exact h7
    have hy : X.env.scope.names.lookup y = some .local := by rw [g.g.sc]; exact h8
    have hz : X.env.scope.names.lookup z = some .local := by rw [g.g.sc]; exact h9
    exact ss_par3 g.g.calm g.g.nd (by rw [g.g.N]; exact h1) (by rw [g.g.N]; exact h2) (by rw [g.g.N]; exact h3) h4 h5 h6 hx hy hz (tri_sw hk hx hy hz h22 h23 h10 h11 h12 h25 h26 h19 h20 h21) h10 h11 h12
      (show SE G X cf c.own q1 a from chk_ok q1 .e c _ X h13 g.g) (show SE G X cf c.own q2 b from chk_ok q2 .e c _ X h14 g.g) (show SE G X cf c.own q3 d from chk_ok q3 .e c _ X h15 g.g) h16 h17 h18
  · cases h
theorem s_par_ok {is : List (Nat × Bool)} {qs : List E} {c : Ck} {cs : Cs} {fr tt : Bool} {st : Stmt} {X : Cx} (g : GoodS G c cs cf X) (h : s_par is qs c st = true) : SS G X cf c.own fr tt (.par is qs) st := by
  unfold s_par at h
  split at h
  · rename_i i b1 j b2 q1 q2 x px y py kt pt a b k2 pt2 pos
    simp only [Bool.and_eq_true, decide_eq_true_eq, Bool.not_eq_true'] at h
    obtain ⟨⟨⟨⟨⟨⟨⟨⟨⟨⟨⟨⟨⟨⟨⟨h1, h2⟩, h3⟩, h4⟩, h5⟩, h6⟩, h7⟩, h8⟩, h9⟩, h10⟩, h11⟩, h12⟩, h13⟩, h14⟩, h15⟩, h16⟩ := h
    have hk : X.env.scope.kind = .function := by
      rw [g.g.sc]
      split at h14
      · assumption
      · cases h14
    have hx : X.env.scope.names.lookup x = some .local := by rw [g.g.sc]; exact h4
    have hy : X.env.scope.names.lookup y = some .local := by rw [g.g.sc]; exact h5
    refine ss_par2 g.g.calm g.g.nd (by rw [g.g.N]; exact h1) (by rw [g.g.N]; exact h2) h3 hx hy (pair_sw hk hx hy h13 h6 h7 h15 h16 h12) h6 h7 (val_ok g.g h8) (val_ok g.g h9) ?_ ?_
    · cases b1 <;> simpa using h10
    · cases b2 <;> simpa using h11
  · cases h
theorem s_parU_ok {is : List (Nat × Bool)} {qs : List E} {c : Ck} {cs : Cs} {fr tt : Bool} {st : Stmt} {X : Cx} (g : GoodS G c cs cf X) (h : s_parU is qs c st = true) : SS G X cf c.own fr tt (.par is qs) st := by
  unfold s_parU at h
  split at h
  · rename_i i b1 j b2 q1 q2 x px y py kt pt a b k2 pt2 pos
    simp only [Bool.and_eq_true, decide_eq_true_eq, Bool.not_eq_true'] at h
    obtain ⟨⟨⟨⟨⟨⟨⟨⟨⟨h1, h2⟩, h3⟩, h6⟩, h7⟩, h8⟩, h9⟩, h10⟩, h11⟩, h12⟩ := h
    obtain ⟨a1, a2, a3⟩ := tgN_ok g.g h1
    obtain ⟨a4, a5, a6⟩ := tgN_ok g.g h2
    refine ss_parU g.g.calm g.g.nd a1 a4 h3 a2 a5 a3 a6 (no_sw g.g.sc h12) rfl h6 h7 (val_ok g.g h8) (val_ok g.g h9) ?_ ?_
    · cases b1 <;> simpa using h10
    · cases b2 <;> simpa using h11
  · cases h
theorem s_unp_ok {t : Tg} {q : E} {c : Ck} {cs : Cs} {fr tt : Bool} {st : Stmt} {X : Cx} (g : GoodS G c cs cf X) (h : s_unp t q c st = true) : SS G X cf c.own fr tt (.unp t q) st := by
  unfold s_unp at h
  split at h
  · rename_i tg e pos
    rw [Bool.and_eq_true, Bool.and_eq_true, Bool.and_eq_true] at h
    obtain ⟨⟨⟨h1, h2⟩, h3⟩, h4⟩ := h
    have hq : SE G X cf c.own q e := chk_ok q .e c _ X h2 g.g
    cases tg with
    | Tuple es k p =>
      refine ss_unp g.g.calm g.g.nd (tg_ok g.g t _ h1) ?_ ?_ hq
      · cases e <;> rfl
      · cases e with
        | Tuple vs kv pv => exact no_sw g.g.sc h4
        | _ => rfl
    | _ => cases h3
  · cases h
theorem s_put_ok {i : Nat} {k q : E} {c : Ck} {cs : Cs} {fr tt : Bool} {st : Stmt} {X : Cx} (g : GoodS G c cs cf X) (h : s_put i k q c st = true) : SS G X cf c.own fr tt (.put i k q) st := by
  unfold s_put at h
  split at h
  · rename_i x p ek spos e pos
    simp only [Bool.and_eq_true, decide_eq_true_eq, Bool.not_eq_true'] at h
    obtain ⟨⟨⟨⟨h1, h2⟩, h3⟩, h4⟩, h5⟩ := h
    obtain ⟨g1, g2, g3, g4⟩ := g.g.name h1
    refine ss_put (by have := g.g.un; omega) g1 g2 g3 g4 h2 h3 (by cases e <;> rfl) rfl ?_ (show SE G X cf c.own q _ from chk_ok q .e c _ X h4 g.g) (show SE G X cf c.own k _ from chk_ok k .e c _ X h5 g.g)
    intro v
    cases ek <;> first | rfl | cases h3
  · cases h
theorem s_del_ok {i : Nat} {k : E} {c : Ck} {cs : Cs} {fr tt : Bool} {st : Stmt} {X : Cx} (g : GoodS G c cs cf X) (h : s_del i k c st = true) : SS G X cf c.own fr tt (.del i k) st := by
  unfold s_del at h
  split at h
  · rename_i x p ek sp pos
    simp only [Bool.and_eq_true, decide_eq_true_eq] at h
    obtain ⟨⟨h1, h2⟩, h3⟩ := h
    obtain ⟨g1, g2, g3, g4⟩ := g.g.name h1
    exact ss_del g1 g2 g3 g4 h2 (show SE G X cf c.own k ek from chk_ok k .e c ek X h3 g.g)
  · cases h
theorem s_aug_ok {o : Bop} {i : Nat} {q : E} {c : Ck} {cs : Cs} {fr tt : Bool} {st : Stmt} {X : Cx} (g : GoodS G c cs cf X) (h : s_aug o i q c st = true) : SS G X cf c.own fr tt (.aug o i q) st := by
  unfold s_aug at h
  split at h
  · simp only [Bool.and_eq_true, decide_eq_true_eq] at h
    obtain ⟨⟨h1, h2⟩, h4⟩ := h
    obtain ⟨g1, g2, g3⟩ := tgN_ok g.g h1
    refine ss_aug (o := .add) g.g.nd g1 g2 g3 h2 ?_ (show SE G X cf c.own q _ from chk_ok q .e c _ X h4 g.g)
    intro a b z H Q hz hq pins s σ v u I r1 r2
    cases hz
    exact ip_add pins s σ H _ _ v u Q I r1 r2 ⟨a, b, rfl, rfl, hq _ rfl⟩
  · simp only [Bool.and_eq_true, decide_eq_true_eq] at h
    obtain ⟨⟨h1, h2⟩, h4⟩ := h
    obtain ⟨g1, g2, g3⟩ := tgN_ok g.g h1
    refine ss_aug (o := .sub) g.g.nd g1 g2 g3 h2 ?_ (show SE G X cf c.own q _ from chk_ok q .e c _ X h4 g.g)
    intro a b z H Q hz hq pins s σ v u I r1 r2
    cases hz
    exact ip_sub pins s σ H _ _ v u Q I r1 r2 ⟨a, b, rfl, rfl, hq _ rfl⟩
  · cases h
theorem s_ex_ok {q : E} {c : Ck} {cs : Cs} {fr tt : Bool} {st : Stmt} {X : Cx} (g : GoodS G c cs cf X) (h : s_ex q c st = true) : SS G X cf c.own fr tt (.ex q) st := by
  unfold s_ex at h
  split at h
  · simp only [Bool.and_eq_true, Bool.not_eq_true'] at h
    exact ss_ex (sw_no h.1 _ _ _) (show SE G X cf c.own q _ from chk_ok q .e c _ X h.2 g.g)
  · cases h
theorem s_app_ok {i : Nat} {q : E} {c : Ck} {cs : Cs} {fr tt : Bool} {st : Stmt} {X : Cx} (g : GoodS G c cs cf X) (h : s_app i q c st = true) : SS G X cf c.own fr tt (.app i q) st := by
  unfold s_app at h
  split at h
  · simp only [Bool.and_eq_true, decide_eq_true_eq, Bool.not_eq_true'] at h
    obtain ⟨⟨⟨⟨⟨rfl, h2⟩, h3⟩, h4⟩, h5⟩, h6⟩ := h
    obtain ⟨g1, g2, g3, g4⟩ := g.g.name h2
    exact ss_app g1 g2 g3 g4 h3 h4 h5 (show SE G X cf c.own q _ from chk_ok q .e c _ X h6 g.g)
  · cases h
theorem s_ext_ok {i : Nat} {q : E} {c : Ck} {cs : Cs} {fr tt : Bool} {st : Stmt} {X : Cx} (g : GoodS G c cs cf X) (h : s_ext i q c st = true) : SS G X cf c.own fr tt (.ext i q) st := by
  unfold s_ext at h
  split at h
  · simp only [Bool.and_eq_true, decide_eq_true_eq, Bool.not_eq_true'] at h
    obtain ⟨⟨⟨⟨⟨rfl, h2⟩, h3⟩, h4⟩, h5⟩, h6⟩ := h
    obtain ⟨g1, g2, g3, g4⟩ := g.g.name h2
    exact ss_ext g1 g2 g3 g4 h3 h4 h5 (show SE G X cf c.own q _ from chk_ok q .e c _ X h6 g.g)
  · cases h
theorem s_ret_ok {q : E} {c : Ck} {cs : Cs} {fr tt : Bool} {st : Stmt} {X : Cx} (g : GoodS G c cs cf X) (h : s_ret q c fr st = true) : SS G X cf c.own fr tt (.ret q) st := by
  unfold s_ret at h
  split at h
  · cases fr with
    | false => exact ss_ret (show SE G X cf c.own q _ from chk_ok q .e c _ X h g.g)
    | true =>
      rw [if_pos rfl] at h
      split at h
      · split at h
        · simp only [Bool.and_eq_true, decide_eq_true_eq] at h
          obtain ⟨g1, g2, g3, g4⟩ := g.g.name h.1.1
          exact ss_retM g1 g2 g3 g4 h.1.2 h.2
        · cases h
      · simp only [Bool.and_eq_true] at h
        exact ss_retF (show SF G X cf c.own q _ from chk_ok q .f c _ X h.2 g.g) (isLst_ok h.1)
  · cases h
theorem s_raise_ok {k : Nat} {q : E} {c : Ck} {cs : Cs} {fr tt : Bool} {st : Stmt} {X : Cx} (g : GoodS G c cs cf X) (h : s_raise k q c cs st = true) : SS G X cf c.own fr tt (.raise k q) st := by
  unfold s_raise at h
  split at h
  · simp only [Bool.and_eq_true, Bool.not_eq_true', List.any_eq_true, decide_eq_true_eq] at h
    obtain ⟨⟨⟨⟨⟨⟨x', k', at_⟩, h1, rfl, rfl⟩, hg⟩, h2⟩, h3⟩, h4⟩ := h
    obtain ⟨e1, bm, newId, fI, r, T, hat, hr, hdb⟩ := g.er _ _ _ h1
    refine ss_raise g.g.calm (no_ne h3) ?_ (show SE G X cf c.own q _ from chk_ok q .e c _ X h4 g.g)
    rw [e1]
    exact pmk_err T hat hr (g.g.glo hg) hdb h2
  · simp only [Bool.and_eq_true, decide_eq_true_eq] at h
    obtain ⟨⟨h1, h2⟩, h3⟩ := h
    have e1 := no_of h2
    subst e1
    obtain ⟨bm, nid, T, hdb⟩ := g.en _ _ h1
    exact ss_raise0 g.g.calm (pmk_none T (g.g.glo h3) hdb)
  · cases h
end
end Py
set_option Elab.async false
set_option linter.all false
set_option maxRecDepth 100000
set_option maxHeartbeats 4000000
/-! try: .. except X as n: x = [..] -/
namespace Py
open PySem PySem.Spec PyProof.Rows L2
/-- an item of the list that an except clause makes -/
def itemC (c : Ck) (cs : Cs) (k : Nat) (at_ : Option Str) (n : Str) (i : Si) (e : Expr) : Bool := match i, e with
  | .str s, .Constant (.str s') _ _ => decide (s = s')
  | .num, .Attribute (.Name x _) a _ => decide (x = n) && decide (at_ = some a)
  | .isi b, .Call (.Name y _) [.Name x _, .Name z _] [] _ => decide (y = Str.ofString "isinstance") && c.blt y && decide (x = n) && c.gl z &&
      ((decide (z = Str.ofString "LookupError") && decide ((k, true, b) ∈ cs.kit)) || (decide (z = Str.ofString "ValueError") && decide ((k, false, b) ∈ cs.kit)))
  | _, _ => false
def itemsC (c : Ck) (cs : Cs) (k : Nat) (at_ : Option Str) (n : Str) : List Si → List Expr → Bool
  | [], es => es.isEmpty
  | i :: is, e :: es => itemC c cs k at_ n i e && itemsC c cs k at_ n is es
  | _ :: _, [] => false
theorem boot_LE : bootBuiltins (Str.ofString "LookupError") = some (.type "LookupError") := by first | rfl | decide +kernel | kernel_rfl
theorem boot_VE : bootBuiltins (Str.ofString "ValueError") = some (.type "ValueError") := by first | rfl | decide +kernel | kernel_rfl
section
variable {G : Exi} {cf : CF} {X : Cx} {c : Ck} {cs : Cs}
theorem sufD_cons {p : Option D} {i : Si} {is : List Si} {ds : List D} (h : sufD p (i :: is) = .ok ds) : ∃ d ds', ds = d :: ds' ∧ sufD p is = .ok ds' ∧ (match i with
    | .str s => d = .str s
    | .isi b => d = .bl b
    | .num => p = some d) := by
  cases i with
  | str s =>
    obtain ⟨ds', h1, h2⟩ := bindOk (show (noer (sufD p is)).bind _ = _ from h)
    cases h2; exact ⟨_, ds', rfl, noerOk h1, rfl⟩
  | isi b =>
    obtain ⟨ds', h1, h2⟩ := bindOk (show (noer (sufD p is)).bind _ = _ from h)
    cases h2; exact ⟨_, ds', rfl, noerOk h1, rfl⟩
  | num =>
    cases p with
    | none => cases h
    | some d =>
      obtain ⟨ds', h1, h2⟩ := bindOk (show (noer (sufD (some d) is)).bind _ = _ from h)
      cases h2; exact ⟨_, ds', rfl, noerOk h1, rfl⟩
/-- the class number k by its name, with what it keeps or with none -/
def ClsAt (cs : Cs) (x : Str) (k : Nat) : Option Str → Prop
  | some a => (x, k, a) ∈ cs.one
  | none => (x, k) ∈ cs.none
theorem cls_look (g : GoodS G c cs cf X) {x : Str} {k : Nat} {at_ : Option Str} (hk : ClsAt cs x k at_) : ErrA X.K (G.adr k) ∧ X.mg x = some (.ref (G.adr k)) ∧ (x == ("__debug__" : Str)) = false := by
  cases at_ with
  | some a =>
    obtain ⟨_, bm, newId, fI, r, T, _, _, hdb⟩ := g.er _ _ _ hk
    exact ⟨T.look, T.gC, hdb⟩
  | none =>
    obtain ⟨bm, newId, T, hdb⟩ := g.en _ _ hk
    exact ⟨T.look, T.gC, hdb⟩
theorem sit_ok (g : GoodS G c cs cf X) {a : Addr} {oe : Obj} {pn : List (Addr × Obj)} {dd : Option Addr} {k i : Nat} {x n : Str} {at_ : Option Str} (hk : ClsAt cs x k at_) (hz : Zc (.ref (G.adr k)) dd oe) (hf : ∃ vs, oe.data = .fields vs)
    (hN : X.N[i]? = some n) (hv : Vis X.env.scope n) (hd : (n == ("__debug__" : Str)) = false) (hcd : (n == ("__classdict__" : Str)) = false) {O : Addr → Prop} {p : Option D} {σ : L2.St} {H : Hp} (hσ : σ[i]? = some (some (.ref a))) (hx : XRel G X.K O k p (.ref (G.adr k)) dd H) :
    ∀ (is : List Si) (es : List Expr), itemsC c cs k at_ n is es = true → ∀ (ds : List D), sufD p is = .ok ds → ∀ Q : List V → Hp → Prop, (∀ vs, DaL X.K H O ds vs → Q vs H) → RA (X.suite a ((a, oe) :: pn)) es σ H Q := by
  obtain ⟨TA, _, _⟩ := cls_look g hk
  intro is
  induction is with
  | nil =>
    intro es h ds hs Q q
    have h : es.isEmpty = true := by cases es <;> first | rfl | exact h
    rw [List.isEmpty_iff] at h
    subst h
    have hs : Py.R.ok [] = Py.R.ok ds := hs
    cases hs
    exact RA.of pa_nil (q [] DaL.nil)
  | cons it is ih =>
    intro es h ds hs Q q
    cases es with
    | nil => cases h
    | cons e es =>
      have h : (itemC c cs k at_ n it e && itemsC c cs k at_ n is es) = true := h
      rw [Bool.and_eq_true] at h
      obtain ⟨h1, h2⟩ := h
      obtain ⟨d, ds', rfl, hs', hd'⟩ := sufD_cons hs
      have rest : ∀ v, Da X.K H O d v → RA (X.suite a ((a, oe) :: pn)) es σ H fun vs H2 => Q (v :: vs) H2 := fun v hv => ih es h2 ds' hs' _ fun vs hvs => q (v :: vs) (DaL.cons hv hvs)
      have pv : PE (X.suite a ((a, oe) :: pn)) (.Name n (Pos.mk 0 0 0 0)) (tVar i) := pe_var hN hv hd hcd
      cases it with
      | str s =>
        cases e with
        | Constant cst j pos =>
          cases cst with
          | str s' =>
            have := of_decide_eq_true h1
            subst this
            refine RA.of (pa_cons pe_str (RA.pa es) rfl) (rest _ ?_)
            have hd' : d = .str s := hd'
            subst hd'; exact Da.str
          | _ => cases h1
        | _ => cases h1
      | num =>
        cases e with
        | Attribute en a' pos =>
          cases en with
          | Name x' pos' =>
            have h1 : (decide (x' = n) && decide (at_ = some a')) = true := h1
            rw [Bool.and_eq_true, decide_eq_true_eq, decide_eq_true_eq] at h1
            obtain ⟨rfl, rfl⟩ := h1
            obtain ⟨e1, bm, newId, fI, r, T, hat, hr, hdb⟩ := g.er _ _ _ (show (x, k, a') ∈ cs.one from hk)
            have T' : ErrT (X.suite a ((a, oe) :: pn)).K (X.suite a ((a, oe) :: pn)).mg x a' bm newId (G.adr k) fI := T
            have hd' : p = some d := hd'
            subst hd'
            obtain ⟨_, d2, v, ed, ev, hv2⟩ := hx
            refine RA.of (pa_cons (pe_errAt (C := G.adr k) T' hz hf (pe_var hN hv hd hcd) rfl) (RA.pa es) rfl) ⟨_, hσ, rfl, d2, v, ed, ?_, rest v hv2⟩
            rw [← e1]; exact ev
          | _ => cases h1
        | _ => cases h1
      | isi b =>
        cases e with
        | Call f es2 ks pos =>
          have key : ∃ y yp x' xp z zp, f = .Name y yp ∧ es2 = [.Name x' xp, .Name z zp] ∧ ks = [] ∧ (decide (y = Str.ofString "isinstance") && c.blt y && decide (x' = n) && c.gl z &&
              ((decide (z = Str.ofString "LookupError") && decide ((k, true, b) ∈ cs.kit)) || (decide (z = Str.ofString "ValueError") && decide ((k, false, b) ∈ cs.kit)))) = true := by
            unfold itemC at h1
            split at h1
            · rename_i e0 _; cases e0
            · rename_i e0 _; cases e0
            · rename_i e0 ee
              cases e0
              cases ee
              exact ⟨_, _, _, _, _, _, rfl, rfl, rfl, h1⟩
            · cases h1
          obtain ⟨y, yp, x', xp, z, zp, rfl, rfl, rfl, hh⟩ := key
          simp only [Bool.and_eq_true, decide_eq_true_eq, Bool.or_eq_true] at hh
          obtain ⟨⟨⟨⟨rfl, hb⟩, rfl⟩, hgz⟩, hz2⟩ := hh
          obtain ⟨gb1, gb2⟩ := g.g.bltn hb
          have hd' : d = .bl b := hd'
          subst hd'
          have fin : ∀ (u : String), PE (X.suite a ((a, oe) :: pn)) (.Name z zp) (tC (.ty u)) → PySem.W.kitOne X.K (.ref (G.adr k)) (.type u) = some b → RA (X.suite a ((a, oe) :: pn)) (.Call (.Name (Str.ofString "isinstance") yp) [.Name x' xp, .Name z zp] [] pos :: es) σ H Q := by
            intro u pz hkit
            refine RA.of (pa_cons (pe_callB (X := X.suite a ((a, oe) :: pn)) (call_isiE (C := G.adr k) TA hz hf fun _ _ => trivial) gb1 gb2 boot_isinstance (pa_cons (pe_var (i := i) hN hv hd hcd) (pa_cons pz pa_nil rfl) rfl) (by decide) (by decide) rfl rfl) (RA.pa es) rfl) ?_
            refine ⟨_, hσ, u, b, rfl, hkit, fun d2 e2 => ?_, rest _ Da.bl⟩
            obtain ⟨_, hx2⟩ := hx
            cases p with
            | none => have hx2 : dd = none := hx2; rw [hx2] at e2; cases e2
            | some dv =>
              obtain ⟨d3, v, ed, ev, _⟩ := hx2
              rw [ed] at e2
              cases e2
              exact ⟨_, ev⟩
          rcases hz2 with ⟨rfl, hm⟩ | ⟨rfl, hm⟩
          · exact fin "LookupError" (pe_bltn (g.g.glo hgz) g.kitn.1 boot_LE rfl (by decide) (by decide)) (g.kit _ _ _ hm)
          · exact fin "ValueError" (pe_bltn (g.g.glo hgz) g.kitn.2 boot_VE rfl (by decide) (by decide)) (g.kit _ _ _ hm)
        | _ => cases h1
/-! a state, seen anew from here -/
section
variable {K : PySem.W.Frag} {own : List Nat} {B : Base} {O O' : Addr → Prop} {η η' : Env} {σ σ' : L2.St} {H H' : Hp}
def Rep.base2 {T : List (Addr × D)} (R : Rep K own B T O η σ H) : Base := ⟨H, fun a => O a ∧ B.Nw a, B.O, B.P, B.hP, fun a z => R.tr a (R.base a z)⟩
theorem Rep.anew (R : Rep K own B [] O η σ H) : Rep K own R.base2 [] O η σ H :=
  ⟨R.len, R.sh, fun i d e n => let ⟨p, h1, h2, h3, h4⟩ := R.ow i d e n; ⟨p, h1, h2, .inr ⟨h2, h3⟩, h4⟩, fun p d z => (nomatch z), R.ap, R.apt, R.nb, R.nbT, R.ndt, R.base, R.tr, fun a o e _ => e⟩
theorem Rep.nw_back {T : List (Addr × D)} (R : Rep K own B T O η σ H) {p : Addr} (h : R.base2.Nw p) : B.Nw p := by
  rcases h with h | h
  · have h : H p = none := h
    cases e : B.H p with
    | none => exact .inl e
    | some o =>
      by_cases m : B.M p
      · exact .inr m
      · rw [R.fr p o e m] at h; cases h
  · exact h.2
theorem Rep.fr_on {T : List (Addr × D)} (R : Rep K own B T O η σ H) (f : ∀ a o, H a = some o → ¬ (O a ∧ B.Nw a) → H' a = some o) {a : Addr} {o : HO} (e : B.H a = some o) (m : ¬ B.M a) : H' a = some o :=
  f a o (R.fr a o e m) fun z => z.2.elim (fun w => by rw [w] at e; cases e) m
theorem Rep.back (R : Rep K own B [] O η σ H) (R' : Rep K own R.base2 [] O' η' σ' H') : Rep K own B [] O' η' σ' H' :=
  ⟨R'.len, R'.sh, fun i d e n => let ⟨p, h1, h2, h3, h4⟩ := R'.ow i d e n; ⟨p, h1, h2, R.nw_back h3, h4⟩, fun p d z => (nomatch z), R'.ap, R'.apt, R'.nb, R'.nbT, R'.ndt, R'.base, R'.tr, fun a o e m => R.fr_on R'.fr e m⟩
theorem Rep.caught (R : Rep K own B [] O η σ H) (hM : ∀ a, ¬ B.M a) {as : List Nat} (k : Kp as σ σ') (f : ∀ a o, H a = some o → ¬ (O a ∧ B.Nw a) → H' a = some o) : Rep K own B [] B.O (killE (killE η own) as) σ' H' := by
  have sub : ∀ j d, (killE (killE η own) as)[j]? = some (some d) → j ∉ own ∧ j ∉ as ∧ η[j]? = some (some d) := fun j d e => by
    obtain ⟨n1, e1⟩ := killE_some e
    obtain ⟨n2, e2⟩ := killE_some e1
    exact ⟨n2, n1, e2⟩
  have keep : ∀ a, B.O a → ∀ o, H a = some o → H' a = some o := fun a z o e => f a o e fun w => by
    obtain ⟨o', e'⟩ := B.hO a z
    exact w.2.elim (fun y => by rw [y] at e'; cases e') (hM a)
  refine ⟨by rw [killE_length, killE_length, k.1]; exact R.len, fun j d e n => ?_, fun j d e n => absurd n (sub j d e).1, fun p d z => (nomatch z), fun i j d e p hi _ e1 => absurd hi (sub i d e1).1, fun i d p e hi e1 => absurd hi (sub i d e1).1, fun i d p hi _ e1 => absurd hi (sub i d e1).1, fun p d z => (nomatch z), .nil, fun a z => z, fun a z => ?_, fun a o e m => R.fr_on f e m⟩
  · obtain ⟨n1, n2, e1⟩ := sub j d e
    obtain ⟨v, h1, h2⟩ := R.sh j d e1 n
    exact ⟨v, (k.2 j n2).trans h1, Da.to (fun a o e na => ⟨f a o e fun w => na w.1, fun z => na (R.base a z)⟩) d v h2⟩
  · obtain ⟨o, e⟩ := R.tr a (R.base a z)
    exact ⟨o, keep a z o e⟩
end
/-- all that may be let out -/
def WAll (X : Cx) : WX := fun cls d σ H => ∃ W, L2.Takes X W ∧ W cls d σ H
theorem takes_all : L2.Takes X (WAll X) := fun u s' x => by
  obtain ⟨a, B, sI, pins, σ, H, cls, d, e1, e2, e3, e4, e5, e6, e7, e8, W, tk, hW⟩ := x
  exact tk u s' ⟨a, B, sI, pins, σ, H, cls, d, e1, e2, e3, e4, e5, e6, e7, e8, hW⟩
def suiteC (c : Ck) (cs : Cs) (fr : Bool) (k i : Nat) (at_ : Option Str) (n : Str) (tg : Option Nat) (is : List Si) (st : Stmt) : Bool := match tg, st with
  | some t, .Assign [.Name tn _] (.List es _) _ => tgN c t tn && decide (t ∉ c.own) && decide (t ≠ i) && itemsC c cs k at_ n is es && decide (es.length ≤ 1000000)
  | none, .Return (some (.List es _)) _ => !fr && itemsC c cs k at_ n is es && decide (es.length ≤ 1000000)
  | _, _ => false
theorem itemsC_len {k : Nat} {at_ : Option Str} {n : Str} : ∀ {is : List Si} {es : List Expr} {p : Option D} {ds : List D}, itemsC c cs k at_ n is es = true → sufD p is = .ok ds → ds.length = es.length
  | [], es, p, ds, h, e => by
    have h : es.isEmpty = true := by cases es <;> first | rfl | exact h
    rw [List.isEmpty_iff] at h
    subst h
    have e : Py.R.ok [] = Py.R.ok ds := e
    cases e; rfl
  | i :: is, [], p, ds, h, e => by cases h
  | i :: is, x :: es, p, ds, h, e => by
    have h : (itemC c cs k at_ n i x && itemsC c cs k at_ n is es) = true := h
    rw [Bool.and_eq_true] at h
    obtain ⟨d, ds', rfl, e', _⟩ := sufD_cons e
    rw [List.length_cons, List.length_cons, itemsC_len h.2 e']
/-- a clause, as it is written and as it is meant -/
abbrev Cz := Nat × Nat × Option Nat × List Si
structure ClT where
  x : Str
  n : Str
  np : Pos
  pos : Pos
  b : Stmt
  at_ : Option Str
structure ClG (X : Cx) (c : Ck) (cs : Cs) (fr : Bool) (q : Cz) (t : ClT) : Prop where
  cls : ClsAt cs t.x q.1 t.at_
  gl : c.gl t.x = true
  slot : X.N[q.2.1]? = some t.n
  loc : X.env.kindOf t.n = some .local
  db : (t.n == ("__debug__" : Str)) = false
  cd : (t.n == ("__classdict__" : Str)) = false
  own : q.2.1 ∉ c.own
  all : q.1 ∈ cs.all
  suite : suiteC c cs fr q.1 q.2.1 t.at_ t.n q.2.2.1 q.2.2.2 t.b = true
def clOf (G : Exi) (X : Cx) (q : Cz) (t : ClT) : Cl := ⟨t.x, t.n, t.np, t.pos, t.b, .ref (G.adr q.1), q.2.1, fun a cls d D σ H => ∀ (oe : Obj) (pn : List (Addr × Obj)), Zc cls d oe → (∃ vs, oe.data = .fields vs) → RSs (X.suite a ((a, oe) :: pn)) [t.b] D σ H, false⟩
/-- a clause that takes it -/
theorem suite_yes {fr : Bool} (g : GoodS G c cs cf X) {q : Cz} {t : ClT} (hc : ClG X c cs fr q t) {B : Base} {O : Addr → Prop} {η ηk : Py.Env} {σ σ1 : L2.St} {H H1 : Hp} {W : Ends} {as : List Nat} {p : Option D} {d : Option Addr} {hs : List Cz}
    (R : Rep X.K c.own B [] O η σ H) (R2 : Rep X.K c.own B [] B.O ηk σ1 H1) (fm : ∀ a o, H a = some o → ¬ (O a ∧ B.Nw a) → H1 a = some o) (k2 : Kp as σ σ1) (ki : q.2.1 ∈ as) (kt : ∀ z ∈ q.2.2.1, z ∈ as) (xr1 : XRel G X.K B.O q.1 p (.ref (G.adr q.1)) d H1)
    (s : Sat (handle ηk q.1 p (q :: hs)) (PostS X c.own fr B [] O σ H as W) (XS G X B σ as)) (a : Addr) (ha : H1 a = none) : (clOf G X q t).ts a (.ref (G.adr q.1)) d (Ends.free W q.2.1) (σ1.set q.2.1 (some (.ref a))) H1 := by
  obtain ⟨k, i, tg, is⟩ := q
  obtain ⟨x, n, np, ps, b0, at_⟩ := t
  obtain ⟨hk, hg, hi, hln, hd, hcd, io, hka, hsu⟩ := hc
  dsimp only at hk hg hi hln hd hcd io hka hsu ki kt xr1
  simp only [handle, if_true] at s
  intro oe pn2 hz hf
  split at s
  · rename_i hlt
    have hst : (σ1.set i (some (.ref a)))[i]? = some (some (.ref a)) := List.getElem?_set_self (by rw [← R2.len]; exact hlt)
    have Rk := R2.kill i (σ' := σ1.set i none) (fun j' hj' => List.getElem?_set_ne (Ne.symm hj')) (by rw [List.length_set])
    obtain ⟨ds, e2, s⟩ := okS (show Sat ((noer (sufD p is)).bind _) _ _ from s)
    have mv : Mv O H B.O H1 := fun a o e na => ⟨fm a o e fun w => na w.1, fun z => na (R.base a z)⟩
    have hv : Vis X.env.scope n := .inl hln
    unfold suiteC at hsu
    split at hsu
    · rename_i t1 tn tp es ep sp _
      simp only [Bool.and_eq_true, decide_eq_true_eq] at hsu
      obtain ⟨⟨⟨⟨h1, h2⟩, h3⟩, h4⟩, h5⟩ := hsu
      obtain ⟨g1, g2, g3⟩ := tgN_ok g.g h1
      have kt : t1 ∈ as := kt t1 rfl
      have s : PostS X c.own fr B [] O σ H as W (.nx ((ηk.set i none).set t1 (some (.lst ds)))) := s
      refine RSs.of (pss_cons (ps_set (X := X.suite a ((a, oe) :: pn2)) g.g.nd g1 g2 (RE.pe _) (sw_no rfl _ _ _) g3) pss_nil) ?_
      refine RE.of (pe_lst (RA.pa es)) ?_
      refine sit_ok g hk hz hf hi hv hd hcd hst xr1 is es h4 ds e2 _ fun vs hvs => ⟨?_, fun q hq => ?_⟩
      · rw [hvs.length, itemsC_len h4 e2, ← LIM_line]; show _ ≤ 16777216; omega
      · have eσ : ((σ1.set i (some (V.ref a))).set t1 (some (.ref q))).set i none = (σ1.set i none).set t1 (some (.ref q)) := by
          rw [List.set_comm _ _ h3, List.set_set]
        show W.nx (((σ1.set i (some (V.ref a))).set t1 (some (.ref q))).set i none) (upd H1 q (.lst vs))
        rw [eσ]
        have kk : Kp as σ ((σ1.set i none).set t1 (some (.ref q))) := (k2.trans (Kp.set (i := i)) (fun _ z => z) (fun z hz => by rcases List.mem_singleton.mp hz with rfl; exact ki)).trans (Kp.set (i := t1)) (fun _ z => z) (fun z hz => by rcases List.mem_singleton.mp hz with rfl; exact kt)
        exact s B.O _ _ (mv.trans (Mv.of (Fr.new hq) fun _ z => z)) kk ((Rk.same (Same.new hq)).put h2 (Rk.newL hq (by rw [hvs.length, itemsC_len h4 e2]; show _ ≤ 16777216; omega) hvs))
    · rename_i es ep sp _
      simp only [Bool.and_eq_true, decide_eq_true_eq, Bool.not_eq_true'] at hsu
      obtain ⟨⟨rfl, h4⟩, h5⟩ := hsu
      have s : PostS X c.own false B [] O σ H as W (.rt (.lst ds) (ηk.set i none)) := s
      refine RSs.of (pss_cons (ps_ret (X := X.suite a ((a, oe) :: pn2)) (RE.pe _)) pss_nil) ?_
      refine RE.of (pe_lst (RA.pa es)) ?_
      refine sit_ok g hk hz hf hi hv hd hcd hst xr1 is es h4 ds e2 _ fun vs hvs => ⟨?_, fun q hq => ?_⟩
      · rw [hvs.length, itemsC_len h4 e2, ← LIM_line]; show _ ≤ 16777216; omega
      · exact s B.O _ (σ1.set i none) _ (mv.trans (Mv.of (Fr.new hq) fun _ z => z)) (k2.trans (Kp.set (i := i)) (fun _ z => z) (fun z hz => by rcases List.mem_singleton.mp hz with rfl; exact ki)) (Rk.same (Same.new hq)) (Rk.newL hq (by rw [hvs.length, itemsC_len h4 e2]; show _ ≤ 16777216; omega) hvs) fun z => by cases z
    · cases hsu
  · exact s.elim
/-- the clauses, one after the other -/
theorem wish_ok {fr : Bool} (g : GoodS G c cs cf X) {B : Base} {O : Addr → Prop} {η ηk : Py.Env} {σ σ1 : L2.St} {H H1 : Hp} {W : Ends} {as : List Nat} {p : Option D} {d : Option Addr} {j : Nat} (hj : j ∈ cs.all)
    (R : Rep X.K c.own B [] O η σ H) (R2 : Rep X.K c.own B [] B.O ηk σ1 H1) (fm : ∀ a o, H a = some o → ¬ (O a ∧ B.Nw a) → H1 a = some o) (k2 : Kp as σ σ1) (xr1 : XRel G X.K B.O j p (.ref (G.adr j)) d H1) :
    ∀ (qs : List (Cz × ClT)), (∀ q ∈ qs, ClG X c cs fr q.1 q.2) → (∀ q ∈ qs, q.1.2.1 ∈ as ∧ ∀ z ∈ q.1.2.2.1, z ∈ as) → Sat (handle ηk j p (qs.map (·.1))) (PostS X c.own fr B [] O σ H as W) (XS G X B σ as) →
      wishes X.K (WAll X) W (qs.map fun q => clOf G X q.1 q.2) (.ref (G.adr j)) d σ1 H1 := by
  intro qs
  induction qs with
  | nil =>
    intro _ _ s
    have s : XS G X B σ as j p := s
    obtain ⟨Wo, tko, hWo⟩ := s σ1 k2
    exact ⟨Wo, tko, hWo _ d H1 xr1 fun a o e m => R.fr_on fm e m⟩
  | cons q qs ih =>
    intro hc ha s
    have hq := hc q (List.mem_cons_self ..)
    refine ⟨decide (q.1.1 = j), g.exm j hj q.1.1 hq.all, fun hy a na => ?_, fun hn => ?_⟩
    · have hy : q.1.1 = j := of_decide_eq_true hy
      subst hy
      obtain ⟨a1, a2⟩ := ha q (List.mem_cons_self ..)
      exact suite_yes g hq R R2 fm k2 a1 a2 xr1 s a na
    · have hn : ¬ q.1.1 = j := of_decide_eq_false hn
      refine ih (fun q' z => hc q' (List.mem_cons_of_mem _ z)) (fun q' z => ha q' (List.mem_cons_of_mem _ z)) ?_
      have e : handle ηk j p ((q :: qs).map (·.1)) = handle ηk j p (qs.map (·.1)) := by
        obtain ⟨⟨k, i, tg, is⟩, t⟩ := q
        show (if j = k then _ else _) = _
        rw [if_neg (fun z => hn z.symm)]
      rw [← e]; exact s
theorem ss_try {fr : Bool} (g : GoodS G c cs cf X) {b : List S} {ks : List Nat} {qs : List (Cz × ClT)} {body : List Stmt} {pos : Pos} (ne : qs ≠ []) (hq : ∀ q ∈ qs, ClG X c cs fr q.1 q.2)
    (hb : ∀ (pn : List (Addr × Obj)) (xe : Value → Shared → Prop), PassesOwn (model X.prog X.w) X.A X.env xe → SSs G (X.tr pn xe) cf c.own fr true b body) (hall : ∀ j ∈ ks, j ∈ cs.all) :
    SS G X cf c.own fr false (.try_ b ks (qs.map (·.1))) (.Try body ((qs.map fun q => clOf G X q.1 q.2).map Cl.h) [] [] pos) := by
  intro B T O η σ H W ht R s
  obtain ⟨rfl, hM⟩ := ht rfl
  have has : asgS (.try_ b ks (qs.map (·.1))) = asgSs b ++ (qs.map (·.1)).flatMap fun h => h.2.1 :: h.2.2.1.toList := by simp only [asgS]
  generalize asgS (.try_ b ks (qs.map (·.1))) = as at *
  have ib : ∀ j ∈ asgSs b, j ∈ as := fun j hj => by rw [has]; exact List.mem_append_left _ hj
  have ic : ∀ q ∈ qs, q.1.2.1 ∈ as ∧ ∀ z ∈ q.1.2.2.1, z ∈ as := fun q hq => by
    have key : ∀ z ∈ (q.1.2.1 :: q.1.2.2.1.toList), z ∈ as := fun z hz => by
      rw [has]
      exact List.mem_append_right _ (List.mem_flatMap.mpr ⟨q.1, List.mem_map.mpr ⟨q, hq, rfl⟩, hz⟩)
    exact ⟨key _ (List.mem_cons_self ..), fun z hz => key z (List.mem_cons_of_mem _ (by simpa using hz))⟩
  let tb : WX → TS := fun W' D σ H => ∀ (pn : List (Addr × Obj)) (xe : Value → Shared → Prop), L2.Takes (X.tr pn xe) W' → PassesOwn (model X.prog X.w) X.A X.env xe → RSs (X.tr pn xe) body D σ H
  refine RS.of (ps_try_all (X := X) (tb := tb) g.hex g.stk g.frm g.g.nd _ (by simpa using ne) (fun k hk => ?_) (takes_all (X := X)) (fun W' pn xe tk po => ⟨fun pins s σ H D I h => h pn xe tk po pins s I⟩)) ?_
  · obtain ⟨q, hm, rfl⟩ := List.mem_map.mp hk
    have K := hq q hm
    obtain ⟨_, m, db⟩ := cls_look g K.cls
    exact ⟨K.slot, K.loc, ⟨g.g.glo K.gl, db, .inl m⟩, fun a oe cls d pn hz hf => ⟨fun pins s σ H D I h => h oe pn hz hf pins s I⟩⟩
  intro pn xe tk po
  simp only [ex] at s
  refine hb pn xe po R.base2 [] O η σ H W (fun z => by cases z) R.anew ?_
  cases e : exs cf c.own b η with
  | st => rw [e] at s; exact s.elim
  | ok f =>
    rw [e] at s
    cases f with
    | nx η1 =>
      have s : PostS X c.own fr B [] O σ H as W (.nx η1) := s
      exact fun O1 σ1 H1 m1 k1 R1 => s O1 σ1 H1 m1 (k1.trans Kp.refl (bs := []) ib (fun i hi => nomatch hi)) (R.back R1)
    | bk η1 =>
      have s : PostS X c.own fr B [] O σ H as W (.bk η1) := s
      exact fun O1 σ1 H1 m1 k1 R1 => s O1 σ1 H1 m1 (k1.trans Kp.refl (bs := []) ib (fun i hi => nomatch hi)) (R.back R1)
    | ct η1 =>
      have s : PostS X c.own fr B [] O σ H as W (.ct η1) := s
      exact fun O1 σ1 H1 m1 k1 R1 => s O1 σ1 H1 m1 (k1.trans Kp.refl (bs := []) ib (fun i hi => nomatch hi)) (R.back R1)
    | rt d η1 =>
      have s : PostS X c.own fr B [] O σ H as W (.rt d η1) := s
      refine fun O1 v σ1 H1 m1 k1 R1 dv fz => s O1 v σ1 H1 m1 (k1.trans Kp.refl (bs := []) ib (fun i hi => nomatch hi)) (R.back R1) dv fun h => ?_
      obtain ⟨p, oo, xs, ds, h1, h2, h3, h4⟩ := fz h
      exact ⟨p, oo, xs, ds, h1, h2, R.nw_back h3, h4⟩
  | er j p =>
    rw [e] at s
    have s : Sat (if j ∈ ks then handle (killE (killE η c.own) (asgSs b)) j p (qs.map (·.1)) else .st) (PostS X c.own fr B [] O σ H as W) (XS G X B σ as) := s
    by_cases hj : j ∈ ks
    · rw [if_pos hj] at s
      intro σ1 k1
      refine ⟨_, tk, ?_⟩
      intro cls d H1 xr fm
      have xr1 := xr
      obtain ⟨rfl, xr2⟩ := xr
      have fm : ∀ a o, H a = some o → ¬ (O a ∧ B.Nw a) → H1 a = some o := fm
      have k2 : Kp as σ σ1 := k1.trans Kp.refl (bs := []) ib (fun i hi => nomatch hi)
      exact wish_ok g (hall j hj) R (R.caught hM k1 fm) fm k2 xr1 qs hq ic s
    · rw [if_neg hj] at s; exact s.elim
end
end Py
set_option Elab.async false
set_option linter.all false
set_option maxRecDepth 100000
set_option maxHeartbeats 4000000
/-! try: raise X(v) / except X as n: t = n -/
namespace Py
open PySem PySem.Spec PyProof.Rows L2
section
variable {G : Exi} {cf : CF} {X : Cx} {c : Ck} {cs : Cs}
theorem ss_rz {fr : Bool} (g : GoodS G c cs cf X) {x n vn tn at_ : Str} {k i t j : Nat} {le : Bool} {p1 p2 p3 p4 p5 p6 p7 p8 p9 pos : Pos} (h1 : (x, k, at_) ∈ cs.one) (h2 : (x, le, some at_) ∈ c.er) (hka : k ∈ cs.all) (hgl : c.gl x = true) (slot : X.N[i]? = some n) (loc : X.env.kindOf n = some .local)
    (hd : (n == ("__debug__" : Str)) = false) (hcd : (n == ("__classdict__" : Str)) = false) (io : i ∉ c.own) (htn : tgN c t tn = true) (to : t ∉ c.own) (ti : t ≠ i) (hj : c.nm j vn = true) (jo : j ∉ c.own) :
    SS G X cf c.own fr false (.rz i t x at_ j) (.Try [.Raise (some (.Call (.Name x p1) [.Name vn p2] [] p3)) none p4] [.ExceptHandler (some (.Name x p5)) (some n) [.Assign [.Name tn p6] (.Name n p7) p8] p9] [] [] pos) := by
  intro B T O η σ H W htt R s
  obtain ⟨rfl, hM⟩ := htt rfl
  simp only [ex] at s
  obtain ⟨d, e1, s⟩ := okS s
  split at s
  rotate_left
  · exact s.elim
  rename_i hlt
  have e1 : η[j]? = some (some d) := by
    simp only [rd] at e1
    split at e1
    · rename_i d' e; cases e1; exact e
    · cases e1
  have s : PostS X c.own fr B [] O σ H [i, t] W (.nx ((η.set i none).set t (some (.er x at_ [d])))) := s
  obtain ⟨v, v1, v2⟩ := R.sh j d e1 jo
  obtain ⟨ga, bm, newId, fI, r, T, hat, hr, hdb⟩ := g.er _ _ _ h1
  obtain ⟨_, _, _, _, T', _, _, _⟩ := g.g.ef.one _ _ _ h2
  have ea : G.adr k = clsK X.K x := by
    exact Value.ref.inj (Option.some.inj (T.gC.symm.trans T'.gC))
  obtain ⟨g1, g2, g3⟩ := tgN_ok g.g htn
  obtain ⟨n1, n2, n3, n4⟩ := g.g.name hj
  have hv : Vis X.env.scope n := .inl loc
  let K : Cl := ⟨x, n, p5, p9, .Assign [.Name tn p6] (.Name n p7) p8, .ref (G.adr k), i, fun a cls d D σ H => ∀ (oe : Obj) (pn : List (Addr × Obj)), Zc cls d oe → (∃ vs, oe.data = .fields vs) → RSs (X.suite a ((a, oe) :: pn)) [.Assign [.Name tn p6] (.Name n p7) p8] D σ H, true⟩
  let tb : WX → TS := fun W' D σ H => ∀ (pn : List (Addr × Obj)) (xe : Value → Shared → Prop), L2.Takes (X.tr pn xe) W' → PassesOwn (model X.prog X.w) X.A X.env xe → RSs (X.tr pn xe) [.Raise (some (.Call (.Name x p1) [.Name vn p2] [] p3)) none p4] D σ H
  refine RS.of (ps_try_all (X := X) (tb := tb) g.hex g.stk g.frm g.g.nd [K] (by simp) (fun k' hk => ?_) (takes_all (X := X)) (fun W' pn xe tk po => ⟨fun pins s σ H D I h => h pn xe tk po pins s I⟩)) ?_
  · rw [List.mem_singleton] at hk
    subst hk
    exact ⟨slot, loc, ⟨g.g.glo hgl, hdb, .inl T.gC⟩, fun a oe cls d pn hz hf => ⟨fun pins s σ H D I h => h oe pn hz hf pins s I⟩⟩
  intro pn xe tk po
  refine RSs.of (pss_cons (ps_raise (X := X.tr pn xe) g.g.calm tk (pmk_err (X := X.tr pn xe) T hat hr (g.g.glo hgl) hdb rfl)) pss_nil) ?_
  suffices key : ∀ dd, H dd = none → wishes X.K (WAll X) W [K] (.ref (G.adr k)) (some dd) σ (upd H dd (.xd [(at_, v)])) by
    have : RE (X.tr pn xe) (.Name vn p2) σ H (fun v H1 => ∀ dd, H1 dd = none → wishes X.K (WAll X) W [K] (.ref (G.adr k)) (some dd) σ (upd H1 dd (.xd [(at_, v)]))) := RE.of (pe_var (X := X.tr pn xe) n1 n2 n3 n4) ⟨v, v1, key⟩
    exact this
  intro dd hdd
  refine ⟨true, ?_, fun _ a na => ?_, fun z => nomatch z⟩
  · have := g.exm k hka k hka
    rw [this, decide_eq_true rfl]
  · intro oe pn2 hz hf
    have hst : (σ.set i (some (.ref a)))[i]? = some (some (.ref a)) := List.getElem?_set_self (by rw [← R.len]; exact hlt)
    refine RSs.of (pss_cons (ps_set (X := X.suite a ((a, oe) :: pn2)) g.g.nd g1 g2 (pe_var (i := i) slot hv hd hcd) (sw_no rfl _ _ _) g3) pss_nil) ⟨_, hst, ?_⟩
    have eσ : ((σ.set i (some (V.ref a))).set t (some (.ref a))).set i none = (σ.set i none).set t (some (.ref a)) := by
      rw [List.set_comm _ _ ti, List.set_set]
    show W.nx (((σ.set i (some (V.ref a))).set t (some (.ref a))).set i none) (upd (upd H dd (.xd [(at_, v)])) a (ErX (.ref (G.adr k)) (some dd) a))
    rw [eσ]
    have Ha : H a = none := by
      by_cases y : a = dd
      · rw [y]; exact hdd
      · rw [upd_ne y] at na; exact na
    have ne : a ≠ dd := fun y => by rw [y, upd_same] at na; cases na
    have S1 : L2.Same H (upd (upd H dd (.xd [(at_, v)])) a (ErX (.ref (G.adr k)) (some dd) a)) := fun b o q => Same.new na b o (Same.new hdd b o q)
    have Rk := R.kill i (σ' := σ.set i none) (fun j' hj' => List.getElem?_set_ne (Ne.symm hj')) (by rw [List.length_set])
    have kk : Kp [i, t] σ ((σ.set i none).set t (some (.ref a))) := (Kp.set (i := i)).trans (Kp.set (i := t)) (fun z hz => by rcases List.mem_singleton.mp hz with rfl; exact List.mem_cons_self ..) (fun z hz => by rcases List.mem_singleton.mp hz with rfl; exact List.mem_cons_of_mem _ (List.mem_cons_self ..))
    refine s O _ _ (Mv.of (Same.fr S1) fun _ z => z) kk ((Rk.same S1).put to ?_)
    simp only [Da]
    refine ⟨a, [v], rfl, R.notO Ha, .inr ⟨dd, v, rfl, by rw [ea]; exact upd_same, ?_, R.notO hdd⟩, DaL.cons (v2.fr (Same.fr S1) fun _ z => z) DaL.nil⟩
    rw [upd_ne (Ne.symm ne)]; exact upd_same
/-- the check -/
def s_rz (i t : Nat) (nm at_ : Str) (j : Nat) (c : Ck) (cs : Cs) (st : Stmt) : Bool := match st with
  | .Try [.Raise (some (.Call (.Name x _) [.Name vn _] [] _)) none _] [.ExceptHandler (some (.Name y _)) (some n) [.Assign [.Name tn _] (.Name m _) _] _] [] [] _ =>
    decide (x = nm) && decide (y = nm) && decide (m = n) && c.gl nm && (c.er.any fun z => decide (z.1 = nm) && decide (z.2.2 = some at_)) && (cs.one.any fun z => decide (z.1 = nm) && decide (z.2.2 = at_) && decide (z.2.1 ∈ cs.all)) &&
    decide (c.N[i]? = some n) && decide (c.sc.names.lookup n = some .local) && !(n == ("__debug__" : Str)) && !(n == ("__classdict__" : Str)) && decide (i ∉ c.own) && tgN c t tn && decide (t ∉ c.own) && decide (t ≠ i) && c.nm j vn && decide (j ∉ c.own)
  | _ => false
theorem s_rz_ok {fr : Bool} {i t j : Nat} {nm at_ : Str} {st : Stmt} (g : GoodS G c cs cf X) (h : s_rz i t nm at_ j c cs st = true) : SS G X cf c.own fr false (.rz i t nm at_ j) st := by
  unfold s_rz at h
  split at h
  · simp only [Bool.and_eq_true, decide_eq_true_eq, List.any_eq_true, Bool.not_eq_true'] at h
    obtain ⟨⟨⟨⟨⟨⟨⟨⟨⟨⟨⟨⟨⟨⟨⟨rfl, rfl⟩, rfl⟩, h4⟩, ⟨y, le, a'⟩, hy, h5, h6⟩, ⟨y2, k, a2⟩, hy2, ⟨h7, h8⟩, h9⟩, k1⟩, k2⟩, k3⟩, k4⟩, k5⟩, k6⟩, k7⟩, k8⟩, k9⟩, k10⟩ := h
    have h5 : y = _ := h5
    have h6 : a' = some at_ := h6
    have h7 : y2 = _ := h7
    have h8 : a2 = at_ := h8
    subst h5 h6 h7 h8
    exact ss_rz g hy2 hy h9 h4 (by rw [g.g.N]; exact k1) (by show X.env.scope.names.lookup _ = _; rw [g.g.sc]; exact k2) k3 k4 k5 k6 k7 k8 k9 k10
  · cases h
end
end Py
set_option Elab.async false
set_option linter.all false
set_option maxRecDepth 100000
set_option maxHeartbeats 4000000
/-! the check of statements, whole -/
namespace Py
open PySem PySem.Spec PyProof.Rows L2
def clsC (cs : Cs) (x : Str) (k : Nat) : Option (Option Str) := match cs.one.find? fun t => decide (t.1 = x) && decide (t.2.1 = k) with
  | some t => some (some t.2.2)
  | none => if (x, k) ∈ cs.none then some none else none
theorem clsC_ok {cs : Cs} {x : Str} {k : Nat} {at_ : Option Str} (h : clsC cs x k = some at_) : ClsAt cs x k at_ := by
  unfold clsC at h
  split at h
  · rename_i t ht
    have e1 := List.find?_some ht
    have e2 := List.mem_of_find?_eq_some ht
    simp only [Bool.and_eq_true, decide_eq_true_eq] at e1
    obtain ⟨x', k', a⟩ := t
    obtain ⟨rfl, rfl⟩ := e1
    cases h
    exact e2
  · split at h
    · rename_i m
      cases h; exact m
    · cases h
def s_h (c : Ck) (cs : Cs) (fr : Bool) (q : Cz) (h : ExceptHandler) : Bool := match h with
  | .ExceptHandler (some (.Name x _)) (some n) [b0] _ => (match clsC cs x q.1 with
    | some at_ => suiteC c cs fr q.1 q.2.1 at_ n q.2.2.1 q.2.2.2 b0
    | none => false) && c.gl x && decide (c.N[q.2.1]? = some n) && decide (c.sc.names.lookup n = some .local) && !(n == ("__debug__" : Str)) && !(n == ("__classdict__" : Str)) && decide (q.2.1 ∉ c.own) && decide (q.1 ∈ cs.all)
  | _ => false
def s_hs (c : Ck) (cs : Cs) (fr : Bool) : List Cz → List ExceptHandler → Bool
  | [], hs => hs.isEmpty
  | q :: qs, hs => match hs with
    | h :: r => s_h c cs fr q h && s_hs c cs fr qs r
    | [] => false
theorem s_h_ok {G : Exi} {cf : CF} {X : Cx} {c : Ck} {cs : Cs} {fr : Bool} (g : GoodS G c cs cf X) {q : Cz} {h : ExceptHandler} (e : s_h c cs fr q h = true) : ∃ t : ClT, (clOf G X q t).h = h ∧ ClG X c cs fr q t := by
  unfold s_h at e
  split at e
  · rename_i x np n b0 pos
    simp only [Bool.and_eq_true, decide_eq_true_eq, Bool.not_eq_true'] at e
    obtain ⟨⟨⟨⟨⟨⟨⟨h1, h2⟩, h3⟩, h4⟩, h5⟩, h6⟩, h7⟩, h8⟩ := e
    split at h1
    · rename_i at_ ha
      exact ⟨⟨x, n, np, pos, b0, at_⟩, rfl, clsC_ok ha, h2, by rw [g.g.N]; exact h3, by show X.env.scope.names.lookup n = _; rw [g.g.sc]; exact h4, h5, h6, h7, h8, h1⟩
    · cases h1
  · cases e
theorem s_hs_ok {G : Exi} {cf : CF} {X : Cx} {c : Ck} {cs : Cs} {fr : Bool} (g : GoodS G c cs cf X) : ∀ {qs : List Cz} {hs : List ExceptHandler}, s_hs c cs fr qs hs = true → ∃ ts : List (Cz × ClT), ts.map (·.1) = qs ∧ (ts.map fun q => clOf G X q.1 q.2).map Cl.h = hs ∧ ∀ q ∈ ts, ClG X c cs fr q.1 q.2
  | [], hs, e => by
    have e : hs.isEmpty = true := e
    rw [List.isEmpty_iff] at e
    exact ⟨[], rfl, e.symm, fun q z => nomatch z⟩
  | q :: qs, [], e => by cases e
  | q :: qs, h :: r, e => by
    have e : (s_h c cs fr q h && s_hs c cs fr qs r) = true := e
    rw [Bool.and_eq_true] at e
    obtain ⟨t, e1, e2⟩ := s_h_ok g e.1
    obtain ⟨ts, e3, e4, e5⟩ := s_hs_ok g e.2
    refine ⟨(q, t) :: ts, by rw [List.map_cons, e3], by rw [List.map_cons, List.map_cons, e4, e1], fun q' z => ?_⟩
    rcases List.mem_cons.mp z with rfl | z
    · exact e2
    · exact e5 q' z
mutual
def chkS : S → Ck → Cs → Bool → Bool → Stmt → Bool
  | .set i q, c, cs, fr, tt, st => s_set i q c st || s_lc false i q c st
  | .own i q, c, cs, fr, tt, st => s_own i q c st || s_lc true i q c st
  | .par is es, c, cs, fr, tt, st => s_par is es c st || s_parU is es c st || s_par3 is es c st
  | .unp t q, c, cs, fr, tt, st => s_unp t q c st
  | .app i q, c, cs, fr, tt, st => s_app i q c st
  | .ext i q, c, cs, fr, tt, st => s_ext i q c st
  | .put i k q, c, cs, fr, tt, st => s_put i k q c st
  | .aug o i q, c, cs, fr, tt, st => s_aug o i q c st
  | .augp o i k q, c, cs, fr, tt, st => false
  | .del i k, c, cs, fr, tt, st => s_del i k c st
  | .ret q, c, cs, fr, tt, st => s_ret q c fr st
  | .ret0, c, cs, fr, tt, st => (match st with
    | .Return none _ => !fr
    | _ => false)
  | .if_ t a b, c, cs, fr, tt, st => (match st with
    | .If et sa sb _ => chk t .t c et && chkSs a c cs fr tt sa && chkSs b c cs fr tt sb
    | _ => false)
  | .for_ t src b, c, cs, fr, tt, st => (match st with
    | .For tg iter sb [] _ => chk src .s c iter && srcT src tg && tgC c t tg && !(isSet iter) && (match src with
      | .p i => decide (i ∉ tgSlots t ++ asgSs b) && chkSs b c cs fr true sb
      | _ => chkSs b c cs fr tt sb)
    | _ => false)
  | .while_ t b, c, cs, fr, tt, st => (match st with
    | .While et sb [] _ => chk t .t c et && chkSs b c cs fr tt sb
    | _ => false)
  | .brk, c, cs, fr, tt, st => (match st with
    | .Break _ => true
    | _ => false)
  | .cont, c, cs, fr, tt, st => (match st with
    | .Continue _ => true
    | _ => false)
  | .pass, c, cs, fr, tt, st => (match st with
    | .Pass _ => true
    | _ => false)
  | .ex q, c, cs, fr, tt, st => s_ex q c st
  | .raise k q, c, cs, fr, tt, st => s_raise k q c cs st
  | .rz i t nm at_ j, c, cs, fr, tt, st => !tt && s_rz i t nm at_ j c cs st
  | .try_ b ks hs, c, cs, fr, tt, st => (match st with
    | .Try body hands [] [] _ => !tt && chkSs b c cs fr true body && s_hs c cs fr hs hands && (ks.all fun j => decide (j ∈ cs.all)) && !hs.isEmpty
    | _ => false)
def chkSs : List S → Ck → Cs → Bool → Bool → List Stmt → Bool
  | [], c, cs, fr, tt, sts => sts.isEmpty
  | q :: qs, c, cs, fr, tt, sts => (match sts with
    | st :: r => chkS q c cs fr tt st && chkSs qs c cs fr tt r
    | [] => false)
end
section
variable {G : Exi} {cf : CF}
mutual
theorem chkS_ok : ∀ (q : S) (c : Ck) (cs : Cs) (fr tt : Bool) (st : Stmt) (X : Cx), chkS q c cs fr tt st = true → GoodS G c cs cf X → SS G X cf c.own fr tt q st
  | .set i q, c, cs, fr, tt, st, X, h, g => by
    have h : (s_set i q c st || s_lc false i q c st) = true := h
    rcases Bool.or_eq_true_iff.mp h with h | h
    · exact s_set_ok g h
    · exact s_lc_ok (o := false) g h
  | .own i q, c, cs, fr, tt, st, X, h, g => by
    have h : (s_own i q c st || s_lc true i q c st) = true := h
    rcases Bool.or_eq_true_iff.mp h with h | h
    · exact s_own_ok g h
    · exact s_lc_ok (o := true) g h
  | .par is es, c, cs, fr, tt, st, X, h, g => by
    have h : (s_par is es c st || s_parU is es c st || s_par3 is es c st) = true := h
    rcases Bool.or_eq_true_iff.mp h with h | h
    · rcases Bool.or_eq_true_iff.mp h with h | h
      · exact s_par_ok g h
      · exact s_parU_ok g h
    · exact s_par3_ok g h
  | .unp t q, c, cs, fr, tt, st, X, h, g => s_unp_ok g h
  | .app i q, c, cs, fr, tt, st, X, h, g => s_app_ok g h
  | .ext i q, c, cs, fr, tt, st, X, h, g => s_ext_ok g h
  | .put i k q, c, cs, fr, tt, st, X, h, g => s_put_ok g h
  | .aug o i q, c, cs, fr, tt, st, X, h, g => s_aug_ok g h
  | .augp o i k q, c, cs, fr, tt, st, X, h, g => by cases (show false = true from h)
  | .del i k, c, cs, fr, tt, st, X, h, g => s_del_ok g h
  | .ret q, c, cs, fr, tt, st, X, h, g => s_ret_ok g h
  | .ret0, c, cs, fr, tt, st, X, h, g => by
    simp only [chkS] at h
    split at h
    · cases fr with
      | false => exact ss_ret0
      | true => cases h
    · cases h
  | .if_ t a b, c, cs, fr, tt, st, X, h, g => by
    simp only [chkS] at h
    split at h
    · simp only [Bool.and_eq_true] at h
      exact ss_if (show ST G X cf c.own t _ from chk_ok t .t c _ X h.1.1 g.g) (chkSs_ok a c cs fr tt _ X h.1.2 g) (chkSs_ok b c cs fr tt _ X h.2 g)
    · cases h
  | .for_ t src b, c, cs, fr, tt, st, X, h, g => by
    simp only [chkS] at h
    split at h
    · rename_i tg iter sb pos
      simp only [Bool.and_eq_true, Bool.not_eq_true'] at h
      obtain ⟨⟨⟨⟨h1, h2⟩, h3⟩, h4⟩, h5⟩ := h
      have hs := chk_ok src .s c _ X h1 g.g _ h2
      have ht := tg_ok g.g t _ h3
      by_cases n : ∃ i, src = .p i
      · obtain ⟨i, rfl⟩ := n
        simp only [Bool.and_eq_true, decide_eq_true_eq] at h5
        exact ss_for g.own g.g.calm g.g.nd hs ht (chkSs_ok b c cs fr true _ X h5.2 g) (fun z => by cases z) (fun j e => by cases e; simp only [asgS]; exact h5.1) (set_no h4)
      · have h6 : chkSs b c cs fr tt sb = true := by
          cases src <;> first | exact h5 | exact absurd ⟨_, rfl⟩ n
        exact ss_for g.own g.g.calm g.g.nd hs ht (chkSs_ok b c cs fr tt _ X h6 g) (fun z => ⟨z, fun i e => n ⟨i, e⟩⟩) (fun j e => absurd ⟨j, e⟩ n) (set_no h4)
    · cases h
  | .while_ t b, c, cs, fr, tt, st, X, h, g => by
    simp only [chkS] at h
    split at h
    · simp only [Bool.and_eq_true] at h
      exact ss_while g.own (show ST G X cf c.own t _ from chk_ok t .t c _ X h.1 g.g) (chkSs_ok b c cs fr tt _ X h.2 g)
    · cases h
  | .brk, c, cs, fr, tt, st, X, h, g => by
    simp only [chkS] at h
    split at h
    · exact ss_brk
    · cases h
  | .cont, c, cs, fr, tt, st, X, h, g => by
    simp only [chkS] at h
    split at h
    · exact ss_cont
    · cases h
  | .pass, c, cs, fr, tt, st, X, h, g => by
    simp only [chkS] at h
    split at h
    · exact ss_pass
    · cases h
  | .ex q, c, cs, fr, tt, st, X, h, g => s_ex_ok g h
  | .raise k q, c, cs, fr, tt, st, X, h, g => s_raise_ok g h
  | .rz i t nm at_ j, c, cs, fr, tt, st, X, h, g => by
    have h : (!tt && s_rz i t nm at_ j c cs st) = true := h
    rw [Bool.and_eq_true, Bool.not_eq_true'] at h
    obtain ⟨rfl, h⟩ := h
    exact s_rz_ok g h
  | .try_ b ks hs, c, cs, fr, tt, st, X, h, g => by
    simp only [chkS] at h
    split at h
    · simp only [Bool.and_eq_true, Bool.not_eq_true', List.all_eq_true, decide_eq_true_eq] at h
      obtain ⟨⟨⟨⟨rfl, h2⟩, h3⟩, h4⟩, h5⟩ := h
      obtain ⟨ts, rfl, rfl, e5⟩ := s_hs_ok g h3
      exact ss_try g (fun z => by rw [z] at h5; cases h5) e5 (fun pn xe po => chkSs_ok b c cs fr true _ _ h2 (g.tr pn xe po)) h4
    · cases h
termination_by q => sizeOf q
theorem chkSs_ok : ∀ (qs : List S) (c : Ck) (cs : Cs) (fr tt : Bool) (sts : List Stmt) (X : Cx), chkSs qs c cs fr tt sts = true → GoodS G c cs cf X → SSs G X cf c.own fr tt qs sts
  | [], c, cs, fr, tt, sts, X, h, g => by
    have h : sts.isEmpty = true := h
    rw [List.isEmpty_iff] at h
    subst h; exact sss_nil
  | q :: qs, c, cs, fr, tt, sts, X, h, g => by
    cases sts with
    | nil => cases (show false = true from h)
    | cons st r =>
      have h : (chkS q c cs fr tt st && chkSs qs c cs fr tt r) = true := h
      simp only [Bool.and_eq_true] at h
      exact sss_cons (chkS_ok q c cs fr tt st X h.1 g) (chkSs_ok qs c cs fr tt r X h.2 g)
termination_by qs => sizeOf qs
end
end
end Py
set_option Elab.async false
set_option linter.all false
set_option maxRecDepth 100000
set_option maxHeartbeats 4000000
/-! from the head's facts to the defs -/
namespace Py
open PySem PySem.Spec PyProof.Rows L2
/-- an own error class that keeps one value: its name, what it is kept as, LookupError above it or ValueError; where its __init__ stands -/
structure ErC where
  nm : Str
  at_ : Str
  le : Bool
  init : He.DefD
def ErC.bm (e : ErC) : List Value := if e.le = true then leBm else veBm
def ErC.nid (e : ErC) : String := if e.le = true then "LookupError.__new__" else "ValueError.__new__"
theorem ErC.base (e : ErC) : BaseF e.bm e.nid := by
  unfold ErC.bm ErC.nid
  cases e.le
  · exact baseV
  · exact baseL
def clsB (K : PySem.W.Frag) (C : Addr) (bm : List Value) (nid : String) : Bool := match K.lookup C with
  | some ⟨.type t, _, .cls cd, sl⟩ => decide (t = "type") && decide (cd.mro = .ref C :: bm) && cd.hasDict && !cd.hasDel && (match sl.toList with
    | [_, _, _, _, some (.builtin n), _] => decide (n = nid)
    | _ => false)
  | _ => false
theorem clsB_ok {K : PySem.W.Frag} {C : Addr} {bm : List Value} {nid : String} (h : clsB K C bm nid = true) : ∃ n1 q N bs sn sub ab col dd k0 k1 k2 k3 k5, K.lookup C = some (excClassObj n1 q C N bs bm true sn sub ab col dd k0 k1 k2 k3 k5 nid) := by
  unfold clsB at h
  split at h
  · rename_i t dd cd sl e
    simp only [Bool.and_eq_true, decide_eq_true_eq, Bool.not_eq_true'] at h
    obtain ⟨⟨⟨⟨rfl, h2⟩, h3⟩, h4⟩, h5⟩ := h
    split at h5
    · rename_i k0 k1 k2 k3 n k5 hs
      have h5 := of_decide_eq_true h5
      subst h5
      obtain ⟨nm, bs, mro, ns, qn, hd, sn, sub, ab, col, del⟩ := cd
      dsimp only at h2 h3 h4
      subst h2 h3 h4
      have hsl : sl = #[k0, k1, k2, k3, some (.builtin n), k5] := by
        obtain ⟨l⟩ := sl
        exact congrArg Array.mk hs
      subst hsl
      exact ⟨nm, qn, ns, bs, sn, sub, ab, col, dd, k0, k1, k2, k3, k5, e⟩
    · cases h5
  · cases h
def ErC.adr (e : ErC) (K : PySem.W.Frag) : Addr := He.ga K e.nm
def ErC.ini (e : ErC) (K : PySem.W.Frag) : Addr := He.ma K (He.ga K e.nm) "__init__"
def ErC.ok (e : ErC) (K : PySem.W.Frag) : Bool :=
  He.eqO (PySem.W.nsIn K mainGlobals e.nm) (some (some (.ref (e.adr K)))) && clsB K (e.adr K) e.bm e.nid &&
  He.eqO (PySem.W.findIn K (.ref (e.adr K)) "__setattr__") (some (some (.builtin "object.__setattr__"))) &&
  He.eqO (PySem.W.findIn K (.ref (e.adr K)) "__getattribute__") (some (some (.builtin "BaseException.__getattribute__"))) &&
  He.eqO (PySem.W.findIn K (.ref (e.adr K)) "__getattr__") (some none) &&
  He.eqO (PySem.W.findIn K (.ref (e.adr K)) e.at_) (some none) &&
  He.eqO (PySem.W.findIn K (.ref (e.adr K)) "__init__") (some (some (.ref (e.ini K)))) &&
  decide (PySem.W.typeIn K (.ref (e.ini K)) = some (.type "function")) && PySem.W.keepIn K (.ref (e.adr K)) &&
  decide (PySem.W.subIn K (.ref (e.adr K)) (.type "BaseException") = some true) && decide (PySem.W.typeIn K (.ref (e.adr K)) = some (.type "type")) && PySem.W.hasDictIn K (e.adr K) &&
  He.eqO (PySem.W.findIn K (.ref (e.adr K)) "__class__") (some (some (.builtin "object.__class__"))) &&
  He.eqO (PySem.W.specialIn K (.builtin "object.__class__") "__get__") (some (some (.builtin "getset_descriptor.__get__"))) &&
  decide (PySem.W.takesIn K (.builtin "object.__class__") = some true) && decide (PySem.W.mroIn K (e.adr K) (.type "object") = some true)
/-- an own error class without value -/
structure ErZ where
  nm : Str
  le : Bool
def ErZ.bm (e : ErZ) : List Value := if e.le = true then leBm else veBm
def ErZ.nid (e : ErZ) : String := if e.le = true then "LookupError.__new__" else "ValueError.__new__"
theorem ErZ.base (e : ErZ) : BaseF e.bm e.nid := by
  unfold ErZ.bm ErZ.nid
  cases e.le
  · exact baseV
  · exact baseL
def ErZ.adr (e : ErZ) (K : PySem.W.Frag) : Addr := He.ga K e.nm
def ErZ.ok (e : ErZ) (K : PySem.W.Frag) : Bool :=
  He.eqO (PySem.W.nsIn K mainGlobals e.nm) (some (some (.ref (e.adr K)))) && PySem.W.excIn K (e.adr K) e.bm e.nid && (PySem.W.clsIn K (e.adr K)).isSome &&
  He.eqO (PySem.W.findIn K (.ref (e.adr K)) "__getattribute__") (some (some (.builtin "BaseException.__getattribute__"))) &&
  He.eqO (PySem.W.findIn K (.ref (e.adr K)) "__getattr__") (some none) && PySem.W.keepIn K (.ref (e.adr K)) &&
  decide (PySem.W.subIn K (.ref (e.adr K)) (.type "BaseException") = some true) && decide (PySem.W.typeIn K (.ref (e.adr K)) = some (.type "type")) &&
  He.eqO (PySem.W.findIn K (.ref (e.adr K)) "__class__") (some (some (.builtin "object.__class__"))) &&
  He.eqO (PySem.W.specialIn K (.builtin "object.__class__") "__get__") (some (some (.builtin "getset_descriptor.__get__"))) &&
  decide (PySem.W.takesIn K (.builtin "object.__class__") = some true) && decide (PySem.W.mroIn K (e.adr K) (.type "object") = some true) && !(e.nm == ("__debug__" : Str))
theorem ErZ.errN {e : ErZ} {K : PySem.W.Frag} {h : Heap} {mg : Str → Option Value} (X : K.In h) (G : h.Ns mainGlobals mg) (c : e.ok K = true) : ErrN K mg e.nm e.bm e.nid (e.adr K) ∧ (e.nm == ("__debug__" : Str)) = false := by
  unfold ErZ.ok at c
  simp only [Bool.and_eq_true, decide_eq_true_eq, Bool.not_eq_true'] at c
  obtain ⟨⟨⟨⟨⟨⟨⟨⟨⟨⟨⟨⟨c1, c2⟩, c3⟩, c4⟩, c5⟩, c6⟩, c7⟩, c8⟩, c9⟩, c10⟩, c11⟩, c12⟩, c13⟩ := c
  exact ⟨⟨e.base, PySem.W.mg_of X G (He.eqO_ok c1), c2, c6, c8, ⟨c3, He.eqO_ok c4, He.eqO_ok c5, c7, He.eqO_ok c9, He.eqO_ok c10, c11, c12⟩⟩, c13⟩
/-- its __init__ is written as it should be -/
def ErC.txt (e : ErC) : Prop := e.init.at_ = (e.nm, some ("__init__" : Str)) ∧ e.init.name = "__init__" ∧ e.init.dfl = [] ∧ e.init.kwd = [] ∧ e.init.scope = eScope e.at_ ∧ (∃ p1 p2, e.init.params = eArgs e.at_ p1 p2) ∧ (∃ q1 q2 q3 q4, e.init.body = eBody e.at_ q1 q2 q3 q4) ∧ (e.at_ = "number" ∨ e.at_ = "word") ∧ (e.nm == ("__debug__" : Str)) = false
theorem ErC.errT {e : ErC} {K : PySem.W.Frag} {h : Heap} {mg : Str → Option Value} (X : K.In h) (G : h.Ns mainGlobals mg) (c : e.ok K = true) (t : e.txt) (hf : ∃ fd, FunD K e.init.name e.init.qual e.init.params e.init.body e.init.scope (e.init.dvs K) (e.init.kws K) (He.fAd K e.init.at_) fd) :
    ErrT K mg e.nm e.at_ e.bm e.nid (e.adr K) (e.ini K) := by
  unfold ErC.ok at c
  simp only [Bool.and_eq_true, decide_eq_true_eq] at c
  obtain ⟨⟨⟨⟨⟨⟨⟨⟨⟨⟨⟨⟨⟨⟨⟨c1, c2⟩, c3⟩, c4⟩, c5⟩, c6⟩, c7⟩, c8⟩, c9⟩, c10⟩, c11⟩, c12⟩, c13⟩, c14⟩, c15⟩, c16⟩ := c
  obtain ⟨t1, t2, t3, t4, t5, ⟨p1, p2, t6⟩, ⟨q1, q2, q3, q4, t7⟩, t8, t9⟩ := t
  obtain ⟨fd, F⟩ := hf
  have da : e.init.dvs K = [] := by unfold He.DefD.dvs; rw [t3]; rfl
  have ka : e.init.kws K = [] := by unfold He.DefD.kws; rw [t4]; rfl
  obtain ⟨oc, od, dV, kV, doc, pm, an, cdv, ct, osl, e1, lk, hcd, hD, hK⟩ := F.ex
  have ea : He.fAd K e.init.at_ = e.ini K := by rw [t1]; rfl
  have fn : ∃ (oc : Value) (od : Option Addr) (doc pm : Value) (an : Option Addr) (cdv ct : Value) (osl : Array (Option Value)) (p1 p2 q1 q2 q3 q4 : Pos) (qn : Str) (kV : Value),
      K.lookup (e.ini K) = some ⟨oc, od, .func (PySem.W.fnOf "__init__" qn (eArgs e.at_ p1 p2) (eBody e.at_ q1 q2 q3 q4) (eScope e.at_) .none kV doc pm an cdv ct), osl⟩ ∧ PySem.W.codeIn K cdv qn = true := by
    rcases hD with ⟨_, rfl⟩ | ⟨z, _⟩
    · refine ⟨oc, od, doc, pm, an, cdv, ct, osl, p1, p2, q1, q2, q3, q4, e.init.qual, kV, ?_, hcd⟩
      rw [← ea, lk, e1, t2, t5, t6, t7]
    · exact absurd da z
  exact ⟨e.base, PySem.W.mg_of X G (He.eqO_ok c1), clsB_ok c2, He.eqO_ok c3, He.eqO_ok c4, He.eqO_ok c5, He.eqO_ok c6, He.eqO_ok c7, c8, c9, c10, c11, c12, He.eqO_ok c13, He.eqO_ok c14, c15, c16, fn⟩
end Py
set_option Elab.async false
set_option linter.all false
set_option maxRecDepth 100000
set_option maxHeartbeats 4000000
/-! a program's defs, linked -/
namespace Py
open PySem PySem.Spec PyProof.Rows L2
structure Prog where
  defs : List Def
  fn : List He.DefD
  er : List ErC
  kw : List (Nat × List Str × List Nat)
  ez : List ErZ := []
def Prog.fs (p : Prog) : List (Str × Nat) := (p.defs.map (·.name)).zip (List.range p.defs.length)
def Prog.ds (p : Prog) : List (Bool × Bool × Nat) := p.defs.map fun d => (d.mu, d.fr, d.np)
/-- all error classes: the address, the built-in one above -/
def Prog.erz (p : Prog) (K : PySem.W.Frag) : List (Addr × Bool) := (p.er.map fun e => (e.adr K, e.le)) ++ p.ez.map fun e => (e.adr K, e.le)
def Prog.les (p : Prog) : List Bool := (p.er.map (·.le)) ++ p.ez.map (·.le)
def Prog.cs (p : Prog) : Cs := ⟨(p.er.zip (List.range p.er.length)).map fun e => (e.1.nm, e.2, e.1.at_), (p.ez.zip (List.range p.ez.length)).map fun e => (e.1.nm, p.er.length + e.2), List.range (p.er.length + p.ez.length), (p.les.zip (List.range p.les.length)).flatMap fun e => [(e.2, true, e.1), (e.2, false, !e.1)]⟩
def ersOf (er : List ErC) (ez : List ErZ) : ErS := (er.map fun e => (e.nm, e.le, some e.at_)) ++ ez.map fun e => (e.nm, e.le, none)
def Prog.ck (p : Prog) (d : Def) (sc : Scope) : Ck := ⟨d.N, d.own, sc, none, p.fs, p.ds, p.kw, ersOf p.er p.ez⟩
def Prog.G (p : Prog) (K : PySem.W.Frag) : Exi := ⟨fun k => match (p.erz K)[k]? with
  | some e => e.1
  | none => 0, fun k => match p.er[k]? with
  | some e => e.at_
  | none => Str.ofString "number"⟩
def scopeB (N ps : List Str) (sc : Scope) : Bool := (match sc.kind with
  | .function => true
  | _ => false) && !sc.isCoroutine && !sc.isGenerator && decide N.Nodup && (ps.all fun x => decide (sc.names.lookup x = some .local) || decide (sc.names.lookup x = some .cell)) && sc.names.all fun y => match y.2 with
  | .free => false
  | _ => true
theorem scopeB_ok {N : List Str} {np : Nat} {sc : Scope} (h : scopeB N (N.take np) sc = true) : FnScope N (N.take np) sc := by
  unfold scopeB at h
  simp only [Bool.and_eq_true, Bool.not_eq_true', decide_eq_true_eq, List.all_eq_true, Bool.or_eq_true] at h
  obtain ⟨⟨⟨⟨⟨h1, h2⟩, h3⟩, h4⟩, h5⟩, h6⟩ := h
  refine ⟨?_, h2, h3, h4, ?_, h5, fun y hy z => ?_⟩
  · split at h1
    · assumption
    · cases h1
  · rw [List.length_take]
    by_cases q : np ≤ N.length
    · rw [Nat.min_eq_left q]
    · rw [Nat.min_eq_right (by omega), List.take_length, List.take_of_length_le (by omega)]
  · have := h6 y hy
    rw [z] at this
    cases this
def linkB (p : Prog) (d : Def) (dd : He.DefD) : Bool := decide (dd.name = d.name) && decide (dd.at_ = (d.name, none)) && dd.dfl.isEmpty && dd.kwd.isEmpty && !(d.name == ("__debug__" : Str)) && decide (d.np ≤ d.N.length) && scopeB d.N (d.N.take d.np) dd.scope &&
  (d.told.isSome || chkSs d.body (p.ck d dd.scope) p.cs d.fr d.mu (undoc dd.body)) && (match d.mu with
  | false => d.own.all fun j => decide (d.np ≤ j)
  | true => (d.own.all fun j => decide (j = 0) || decide (d.np ≤ j)) && decide (0 ∈ d.own) && !d.fr && decide (0 ∉ asgSs d.body))
def SpD (p : Prog) (K : PySem.W.Frag) (n i : Nat) (d : Def) : Sp := if d.mu = true then SpM (p.G K) K (callN p.defs n) i d.np else SpN (p.G K) K (callN p.defs n) d.fr i d.np
/-- what is told is so, where all that it may call is -/
def ToldOk (p : Prog) (P : Program) (w : World) (K : PySem.W.Frag) (mg : Str → Option Value) (base : Heap) (i : Nat) (d : Def) (dd : He.DefD) (k : Nat) (g : List D → R D) : Prop := d.mu = false ∧ ∀ n, k ≤ n →
  (∀ (i : Nat) (d : Def) (dd : He.DefD) (fd : FuncData), p.defs[i]? = some d → p.fn[i]? = some dd → FunD K dd.name dd.qual dd.params dd.body dd.scope (dd.dvs K) (dd.kws K) (He.fAd K dd.at_) fd → FnOk P w K mg base (L2.CX P w) n (He.fAd K dd.at_) fd (d.N.take d.np) (SpD p K n i d)) →
  ∀ fd, FunD K dd.name dd.qual dd.params dd.body dd.scope [] [] (He.fAd K dd.at_) fd → FnOk P w K mg base (L2.CX P w) (n + 1) (He.fAd K dd.at_) fd (d.N.take d.np) (SpN (p.G K) K (fun _ ds => (g ds).bind fun z => .ok (z, .non)) d.fr i d.np)
structure Linked (p : Prog) (P : Program) (w : World) (K : PySem.W.Frag) (mg : Str → Option Value) (base : Heap) : Prop where
  fnD : ∀ (i : Nat) (d : Def) (dd : He.DefD), p.defs[i]? = some d → p.fn[i]? = some dd → ∃ fd, FunD K dd.name dd.qual dd.params dd.body dd.scope (dd.dvs K) (dd.kws K) (He.fAd K dd.at_) fd ∧ Binds K fd (d.N.take d.np) [] ∧ ∀ ks ord, (i, ks, ord) ∈ p.kw → KwB K fd (d.N.take d.np) ks ord
  lk : ∀ (i : Nat) (d : Def), p.defs[i]? = some d → ∃ dd, p.fn[i]? = some dd ∧ linkB p d dd = true
  gm : ∀ d ∈ p.defs, mg d.name = some (.ref (He.ga K d.name))
  blt : ∀ x ∈ bltL, mg x = none
  er : ∀ e ∈ p.er, ErrT K mg e.nm e.at_ e.bm e.nid (e.adr K) (e.ini K) ∧ (e.at_ = "number" ∨ e.at_ = "word") ∧ (e.nm == ("__debug__" : Str)) = false
  ez : ∀ e ∈ p.ez, ErrN K mg e.nm e.bm e.nid (e.adr K) ∧ (e.nm == ("__debug__" : Str)) = false
  exm : ∀ k < p.er.length + p.ez.length, ∀ j < p.er.length + p.ez.length, PySem.W.exmOne K (.ref ((p.G K).adr k)) (.ref ((p.G K).adr j)) = some (decide (j = k))
  kit : ∀ (k : Nat) (l : Bool), p.les[k]? = some l → ∀ z, PySem.W.kitOne K (.ref ((p.G K).adr k)) (.type (baseN z)) = some (z == l)
  kitn : mg (Str.ofString "LookupError") = none ∧ mg (Str.ofString "ValueError") = none
  kitm : mg (Str.ofString "KeyError") = none ∧ mg (Str.ofString "IndexError") = none
  kit4 : ∀ x le a, (x, le, a) ∈ ersOf p.er p.ez → PySem.W.kitOne K (.ref (He.ga K x)) (.type "LookupError") = some le ∧ PySem.W.kitOne K (.ref (He.ga K x)) (.type "ValueError") = some (!le) ∧
    PySem.W.kitOne K (.ref (He.ga K x)) (.type "KeyError") = some false ∧ PySem.W.kitOne K (.ref (He.ga K x)) (.type "IndexError") = some false
  kito : ∀ x le a y le' a', (x, le, a) ∈ ersOf p.er p.ez → (y, le', a') ∈ ersOf p.er p.ez → PySem.W.kitOne K (.ref (He.ga K x)) (.ref (He.ga K y)) = some (decide (x = y))
  tl : ∀ (i : Nat) (d : Def) (dd : He.DefD) k g, p.defs[i]? = some d → p.fn[i]? = some dd → d.told = some (k, g) → ToldOk p P w K mg base i d dd k g
theorem zip_range {α : Type} {l : List α} {a : α} {k : Nat} (h : (a, k) ∈ l.zip (List.range l.length)) : l[k]? = some a := by
  obtain ⟨i, hi⟩ := List.mem_iff_getElem?.mp h
  rw [List.getElem?_zip_eq_some] at hi
  obtain ⟨h1, h2⟩ := hi
  rw [List.getElem?_eq_some_iff] at h2
  obtain ⟨h3, h4⟩ := h2
  rw [List.getElem_range] at h4
  have h4 : i = k := h4
  rw [← h4]; exact h1
theorem clsK_ga {K : PySem.W.Frag} {x : Str} : clsK K x = He.ga K x := by
  unfold clsK He.ga refOf
  split <;> split <;> first | rfl | simp_all
theorem ers_one {er : List ErC} {ez : List ErZ} {x : Str} {le : Bool} {a : Str} (h : (x, le, some a) ∈ ersOf er ez) : ∃ e ∈ er, e.nm = x ∧ e.le = le ∧ e.at_ = a := by
  rcases List.mem_append.mp h with h | h
  · obtain ⟨e, he, z⟩ := List.mem_map.mp h
    cases z
    exact ⟨e, he, rfl, rfl, rfl⟩
  · obtain ⟨e, he, z⟩ := List.mem_map.mp h
    cases z
theorem ers_none {er : List ErC} {ez : List ErZ} {x : Str} {le : Bool} (h : (x, le, none) ∈ ersOf er ez) : ∃ e ∈ ez, e.nm = x ∧ e.le = le := by
  rcases List.mem_append.mp h with h | h
  · obtain ⟨e, he, z⟩ := List.mem_map.mp h
    cases z
  · obtain ⟨e, he, z⟩ := List.mem_map.mp h
    cases z
    exact ⟨e, he, rfl, rfl⟩
theorem adr_er {p : Prog} {K : PySem.W.Frag} {k : Nat} {e : ErC} (h : p.er[k]? = some e) : (p.G K).adr k = e.adr K := by
  have : (p.erz K)[k]? = some (e.adr K, e.le) := by
    unfold Prog.erz
    rw [List.getElem?_append_left (by rw [List.length_map]; exact (List.getElem?_eq_some_iff.mp h).1), List.getElem?_map, h]; rfl
  show (match (p.erz K)[k]? with | some e => e.1 | none => 0) = _
  rw [this]
theorem adr_ez {p : Prog} {K : PySem.W.Frag} {k : Nat} {e : ErZ} (h : p.ez[k]? = some e) : (p.G K).adr (p.er.length + k) = e.adr K := by
  have : (p.erz K)[p.er.length + k]? = some (e.adr K, e.le) := by
    unfold Prog.erz
    rw [List.getElem?_append_right (by rw [List.length_map]; omega), List.length_map, Nat.add_sub_cancel_left, List.getElem?_map, h]; rfl
  show (match (p.erz K)[p.er.length + k]? with | some e => e.1 | none => 0) = _
  rw [this]
theorem undoc_ok {G : Exi} {X : Cx} {cf : CF} {own : List Nat} {fr tt : Bool} {qs : List S} {sts : List Stmt} (h : SSs G X cf own fr tt qs (undoc sts)) : SSs G X cf own fr tt qs sts := by
  cases sts with
  | nil => exact h
  | cons st sts =>
    have h : SSs G X cf own fr tt qs (if isDoc st = true then sts else st :: sts) := h
    by_cases hd : isDoc st = true
    · rw [if_pos hd] at h
      unfold isDoc at hd
      split at hd
      · exact sss_doc h
      · cases hd
    · rw [if_neg hd] at h; exact h
section
variable {p : Prog} {P : Program} {w : World} {K : PySem.W.Frag} {mg : Str → Option Value} {base : Heap}
theorem good_of (L : Linked p P w K mg base) {n : Nat} (ih : ∀ (i : Nat) (d : Def) (dd : He.DefD) (fd : FuncData), p.defs[i]? = some d → p.fn[i]? = some dd → FunD K dd.name dd.qual dd.params dd.body dd.scope (dd.dvs K) (dd.kws K) (He.fAd K dd.at_) fd → FnOk P w K mg base (L2.CX P w) n (He.fAd K dd.at_) fd (d.N.take d.np) (SpD p K n i d))
    {d : Def} {qual : Str} {scope : Scope} {f : Addr} {cdv : Value} {A : Around} {outer : List PySem.Env} {s : Shared} {H : Hp} {E : XK} (hnd : d.N.Nodup) (hr : Room n (A.deeper (envOfC qual scope s.heap.objs.size f cdv))) :
    GoodS (p.G K) (p.ck d scope) p.cs (callN p.defs n) (cxOf (L2.CX P w) P w K mg base d.N qual scope f cdv A outer s H E) where
  g := {
    N := rfl
    nd := hnd
    sc := rfl
    calm := rfl
    fn := fun _ _ => rfl
    un := by
      show (A.deeper (envOfC qual scope s.heap.objs.size f cdv)).units + 65 < cLine
      have := hr.un; omega
    blt := L.blt
    call := fun x i hx => by
      have hx : (x, i) ∈ (p.defs.map (·.name)).zip (List.range p.defs.length) := hx
      have hx : (p.defs.map (·.name))[i]? = some x := zip_range (by rw [List.length_map]; exact hx)
      rw [List.getElem?_map, Option.map_eq_some_iff] at hx
      obtain ⟨d2, e2, rfl⟩ := hx
      obtain ⟨dd, e3, hl⟩ := L.lk i d2 e2
      obtain ⟨fd, F, hb, hk⟩ := L.fnD i d2 dd e2 e3
      unfold linkB at hl
      simp only [Bool.and_eq_true, decide_eq_true_eq, Bool.not_eq_true'] at hl
      obtain ⟨⟨⟨⟨⟨⟨⟨⟨l1, l2⟩, l3⟩, l4⟩, l5⟩, l6⟩, l7⟩, l8⟩, l9⟩ := hl
      refine ⟨n, He.fAd K dd.at_, fd, d2.N.take d2.np, hr, ?_, F.kp, hb, l5, fun mu fr np hds => ?_, hk⟩
      · rw [l2]; exact L.gm d2 (List.mem_of_getElem? e2)
      · have hds : (p.defs.map fun d => (d.mu, d.fr, d.np))[i]? = some (mu, fr, np) := hds
        rw [List.getElem?_map, e2] at hds
        cases hds
        have := ih i d2 dd fd e2 e3 F
        unfold SpD at this
        cases hm : d2.mu
        · rw [hm] at this; exact this
        · rw [hm] at this; exact this
    ef := {
      one := fun x le a hx => by
        obtain ⟨e, he, rfl, rfl, rfl⟩ := ers_one hx
        obtain ⟨T, hat, hdb⟩ := L.er e he
        refine ⟨e.bm, e.nid, e.ini K, n, ?_, hat, hr, hdb⟩
        rw [clsK_ga]; exact T
      none := fun x le hx => by
        obtain ⟨e, he, rfl, rfl⟩ := ers_none hx
        obtain ⟨T, hdb⟩ := L.ez e he
        refine ⟨e.bm, e.nid, ?_, hdb⟩
        rw [clsK_ga]; exact T
      kit := fun x le a hx => by
        rw [clsK_ga]; exact L.kit4 x le a hx
      own := fun x le a y le' a' hx hy => by
        rw [clsK_ga, clsK_ga]; exact L.kito x le a y le' a' hx hy
      free := fun _ => ⟨L.kitn.1, L.kitn.2, L.kitm.1, L.kitm.2⟩ } }
  own := L2.passes_of (K := fun e s'' => L2.CX P w outer H s E e s'') rfl
  stk := rfl
  frm := rfl
  hex := rfl
  er := fun x k a hx => by
    have hx : (x, k, a) ∈ (p.er.zip (List.range p.er.length)).map fun e => (e.1.nm, e.2, e.1.at_) := hx
    obtain ⟨⟨e, k'⟩, h1, h2⟩ := List.mem_map.mp hx
    cases h2
    have h1 := zip_range h1
    obtain ⟨T, hat, hdb⟩ := L.er e (List.mem_of_getElem? h1)
    have ga : (p.G K).adr k' = e.adr K := adr_er h1
    have gt : (p.G K).attr k' = e.at_ := by show (match p.er[k']? with | some e => e.at_ | none => Str.ofString "number") = _; rw [h1]
    refine ⟨gt, e.bm, e.nid, e.ini K, n, ?_, hat, hr, hdb⟩
    rw [ga]; exact T
  en := fun x k hx => by
    have hx : (x, k) ∈ (p.ez.zip (List.range p.ez.length)).map fun e => (e.1.nm, p.er.length + e.2) := hx
    obtain ⟨⟨e, k'⟩, h1, h2⟩ := List.mem_map.mp hx
    cases h2
    have h1 := zip_range h1
    obtain ⟨T, hdb⟩ := L.ez e (List.mem_of_getElem? h1)
    refine ⟨e.bm, e.nid, ?_, hdb⟩
    rw [adr_ez h1]; exact T
  exm := fun k hk j hj => L.exm k (List.mem_range.mp hk) j (List.mem_range.mp hj)
  kit := fun k z b hx => by
    have hx : (k, z, b) ∈ (p.les.zip (List.range p.les.length)).flatMap fun e => [(e.2, true, e.1), (e.2, false, !e.1)] := hx
    obtain ⟨⟨e, k'⟩, h1, h2⟩ := List.mem_flatMap.mp hx
    have h1 := zip_range h1
    have key : k = k' ∧ b = (z == e) := by
      rcases List.mem_cons.mp h2 with h2 | h2
      · cases h2; exact ⟨rfl, by cases e <;> rfl⟩
      · have h2 := List.mem_singleton.mp h2
        cases h2; exact ⟨rfl, by cases e <;> rfl⟩
    obtain ⟨rfl, rfl⟩ := key
    exact L.kit k e h1 z
  kitn := L.kitn
theorem fn_sp {P : Program} {w : World} {K : PySem.W.Frag} {mg : Str → Option Value} {base : Heap} {CX : _} {k : Nat} {f : Addr} {fd : FuncData} {ps : List Str} {sp sp' : Sp} (F : FnOk P w K mg base CX k f fd ps sp) (h : ∀ vs H Q E, sp' vs H Q E → sp vs H Q E) : FnOk P w K mg base CX k f fd ps sp' :=
  ⟨fun vs H Q E z => F.len vs H Q E (h vs H Q E z), fun A outer s H args us vs Q E hr he hb hv z => F.run A outer s H args us vs Q E hr he hb hv (h vs H Q E z)⟩
theorem fns_ok (L : Linked p P w K mg base) : ∀ (n i : Nat) (d : Def) (dd : He.DefD) (fd : FuncData), p.defs[i]? = some d → p.fn[i]? = some dd → FunD K dd.name dd.qual dd.params dd.body dd.scope (dd.dvs K) (dd.kws K) (He.fAd K dd.at_) fd →
    FnOk P w K mg base (L2.CX P w) n (He.fAd K dd.at_) fd (d.N.take d.np) (SpD p K n i d)
  | 0, i, d, dd, fd, e1, e2, F => by
    obtain ⟨dd', e3, hl⟩ := L.lk i d e1
    rw [e2] at e3; cases e3
    unfold linkB at hl
    simp only [Bool.and_eq_true, decide_eq_true_eq, Bool.not_eq_true'] at hl
    have hnp : (d.N.take d.np).length = d.np := by rw [List.length_take]; have := hl.1.1.1.2; omega
    have no : ∀ vs H Q E, SpD p K 0 i d vs H Q E → False := fun vs H Q E h => by
      unfold SpD at h
      split at h
      · obtain ⟨_, _, _, _, _, _, _, _, _, _, _, hs⟩ := h
        exact hs
      · obtain ⟨_, _, _, _, _, hs⟩ := h
        exact hs
    exact ⟨fun vs H Q E h => (no _ _ _ _ h).elim, fun A outer s H args us vs Q E hr he hb hv h => (no _ _ _ _ h).elim⟩
  | n + 1, i, d, dd, fd, e1, e2, F => by
    obtain ⟨dd', e3, hl⟩ := L.lk i d e1
    rw [e2] at e3; cases e3
    unfold linkB at hl
    simp only [Bool.and_eq_true, decide_eq_true_eq, Bool.not_eq_true', List.isEmpty_iff] at hl
    obtain ⟨⟨⟨⟨⟨⟨⟨⟨l1, l2⟩, l3⟩, l4⟩, l5⟩, l6⟩, l7⟩, l8⟩, l9⟩ := hl
    have hnp : (d.N.take d.np).length = d.np := by rw [List.length_take]; omega
    have S := scopeB_ok l7
    have da : dd.dvs K = [] := by unfold He.DefD.dvs; rw [l3]; rfl
    have ka : dd.kws K = [] := by unfold He.DefD.kws; rw [l4]; rfl
    have F' : FunD K dd.name dd.qual dd.params dd.body dd.scope [] [] (He.fAd K dd.at_) fd := by
      rw [← da]
      have := F
      rw [ka] at this
      rw [da] at this ⊢
      exact this
    have ih := fns_ok L n
    have hb : ∀ (tt : Bool), chkSs d.body (p.ck d dd.scope) p.cs d.fr tt (undoc dd.body) = true → ∀ (cdv : Value) (A : Around) (outer : List PySem.Env) (s : Shared) (H : Hp) (E : XK), Room n (A.deeper (envOfC dd.qual dd.scope s.heap.objs.size (He.fAd K dd.at_) cdv)) →
        SSs (p.G K) (cxOf (L2.CX P w) P w K mg base d.N dd.qual dd.scope (He.fAd K dd.at_) cdv A outer s H E) (callN p.defs n) d.own d.fr tt d.body dd.body := fun tt ht cdv A outer s H E hr =>
      undoc_ok (chkSs_ok d.body (p.ck d dd.scope) p.cs d.fr tt _ _ ht (good_of L ih S.nd hr))
    cases htl : d.told with
    | some kg =>
      obtain ⟨k, g⟩ := kg
      obtain ⟨hm, hg⟩ := L.tl i d dd k g e1 e2 htl
      have F2 : FunD K dd.name dd.qual dd.params dd.body dd.scope [] [] (He.fAd K dd.at_) fd := by
        rw [← da]
        have := F
        rw [ka] at this
        rw [da] at this ⊢
        exact this
      unfold SpD
      rw [hm, if_neg Bool.false_ne_true]
      by_cases hk : k ≤ n
      · refine fn_sp (hg n hk ih fd F2) fun vs H Q E h => ?_
        obtain ⟨ds, O, hl, hO, hd, hs⟩ := h
        have ld := hd.length
        have e3 : callN p.defs (n + 1) i ds = (g ds).bind fun z => .ok (z, .non) := by
          simp only [callN, e1]
          rw [if_pos (by omega), runD_some htl, if_pos hk]
        rw [e3] at hs
        exact ⟨ds, O, hl, hO, hd, hs⟩
      · refine ⟨fun vs H Q E h => (False.elim ?_), fun A outer s H args us vs Q E hr he hb hv h => (False.elim ?_)⟩ <;>
        · obtain ⟨ds, O, hl, hO, hd, hs⟩ := h
          have ld := hd.length
          have e3 : callN p.defs (n + 1) i ds = .st := by
            simp only [callN, e1]
            rw [if_pos (by omega), runD_some htl, if_neg hk]
          rw [e3] at hs
          exact hs
    | none =>
    rw [htl] at l8
    have l8 : chkSs d.body (p.ck d dd.scope) p.cs d.fr d.mu (undoc dd.body) = true := by simpa using l8
    unfold SpD
    cases hm : d.mu with
    | false =>
      rw [hm] at l8 l9
      rw [if_neg Bool.false_ne_true]
      exact def_n e1 htl hm F' S hnp (fun j hj => by simpa using List.all_eq_true.mp l9 j hj) (hb false l8)
    | true =>
      rw [hm] at l8 l9
      rw [if_pos rfl]
      simp only [Bool.and_eq_true, decide_eq_true_eq, Bool.not_eq_true', List.all_eq_true, Bool.or_eq_true] at l9
      obtain ⟨⟨⟨k1, k2⟩, k3⟩, k4⟩ := l9
      have hb2 := hb true l8
      rw [k3] at hb2
      exact def_m e1 htl hm F' S hnp k1 k2 k3 k4 hb2
end
/-! the head's facts, with those of the error classes -/
def erAll (er : List ErC) (ez : List ErZ) (K : PySem.W.Frag) : List (Addr × Bool) := (er.map fun e => (e.adr K, e.le)) ++ ez.map fun e => (e.adr K, e.le)
def erN (er : List ErC) (ez : List ErZ) (K : PySem.W.Frag) : List (Str × Addr × Bool) := (er.map fun e => (e.nm, e.adr K, e.le)) ++ ez.map fun e => (e.nm, e.adr K, e.le)
def erB2 (er : List ErC) (ez : List ErZ) (K : PySem.W.Frag) : Bool := ((erN er ez K).all fun e => decide (PySem.W.kitOne K (.ref e.2.1) (.type "LookupError") = some e.2.2) && decide (PySem.W.kitOne K (.ref e.2.1) (.type "ValueError") = some (!e.2.2)) &&
    decide (PySem.W.kitOne K (.ref e.2.1) (.type "KeyError") = some false) && decide (PySem.W.kitOne K (.ref e.2.1) (.type "IndexError") = some false)) && (erN er ez K).all fun e => (erN er ez K).all fun f => decide (PySem.W.kitOne K (.ref e.2.1) (.ref f.2.1) = some (decide (e.1 = f.1)))
def erB (er : List ErC) (ez : List ErZ) (K : PySem.W.Frag) : Bool := erB2 er ez K && (er.all fun e => e.ok K) && (ez.all fun e => e.ok K) && ((erAll er ez K).all fun e => decide (PySem.W.kitOne K (.ref e.1) (.type "LookupError") = some e.2) && decide (PySem.W.kitOne K (.ref e.1) (.type "ValueError") = some (!e.2))) &&
  ((erAll er ez K).zip (List.range (er.length + ez.length))).all fun e => ((erAll er ez K).zip (List.range (er.length + ez.length))).all fun f => decide (PySem.W.exmOne K (.ref e.1.1) (.ref f.1.1) = some (decide (f.2 = e.2)))
abbrev AlX : Type := He.AlD × Bool
def obsX (fa : List He.Fa) (fn : List He.DefD) (er : List ErC) (ez : List ErZ) (K : PySem.W.Frag) : AlX := (He.obsD fa fn K, erB er ez K)
def SaysX (fa : List He.Fa) (fn : List He.DefD) (er : List ErC) (ez : List ErZ) (K : PySem.W.Frag) : Prop := obsX fa fn er ez K = (He.valD fn, true)
def obsXG (n : Nat) (fa : List He.Fa) (fn : List He.DefD) (er : List ErC) (ez : List ErZ) (g : Addr → Option Obj) : AlX := obsX fa fn er ez (He.frG g (He.asD g n))
def hookX (n : Nat) (fa : List He.Fa) (fn : List He.DefD) (er : List ErC) (ez : List ErZ) : PySem.W.Hook where
  α := AlX
  obs := fun s => obsXG n fa fn er ez s.heap.get?
  val := fun _ => (He.valD fn, true)
  says := fun _ h => ∃ K : PySem.W.Frag, K.In h ∧ SaysX fa fn er ez K
  of := fun _ _ e => ⟨_, He.frG_in, e⟩
  keeps := fun _ _ _ ⟨K, hK, c⟩ k => ⟨K, PySem.W.Frag.In.keeps hK k, c⟩
theorem obsXG_eq {n : Nat} {fa : List He.Fa} {fn : List He.DefD} {er : List ErC} {ez : List ErZ} {g : Addr → Option Obj} {s : Shared} (h : ∀ a, g a = s.heap.get? a) : obsXG n fa fn er ez g = (hookX n fa fn er ez).obs s := by
  have e : g = s.heap.get? := funext h
  rw [e]; rfl
section
variable {fa : List He.Fa} {fn : List He.DefD} {er : List ErC} {ez : List ErZ} {K : PySem.W.Frag}
theorem SaysX.d (c : SaysX fa fn er ez K) : He.SaysD fa fn K := congrArg (fun z : AlX => z.1) c
theorem SaysX.e (c : SaysX fa fn er ez K) : erB er ez K = true := congrArg (fun z : AlX => z.2) c
end
/-- where nothing is told -/
theorem tl_none {p : Prog} {P : Program} {w : World} {K : PySem.W.Frag} {mg : Str → Option Value} {base : Heap} (h : p.defs.all (fun d => d.told.isNone) = true) : ∀ (i : Nat) (d : Def) (dd : He.DefD) k g, p.defs[i]? = some d → p.fn[i]? = some dd → d.told = some (k, g) → ToldOk p P w K mg base i d dd k g := fun i d dd k g e1 _ e3 => by
  have := List.all_eq_true.mp h d (List.mem_of_getElem? e1)
  rw [e3] at this
  cases this
/-- all is linked -/
theorem linked_of {p : Prog} {P : Program} {w : World} {K : PySem.W.Frag} {mg : Str → Option Value} {h base : Heap} {fa : List He.Fa} {fn : List He.DefD} (X : K.In h) (G : h.Ns mainGlobals mg) (c : SaysX fa (p.fn ++ fn) p.er p.ez K)
    (hl : p.defs.length = p.fn.length) (hlk : (p.defs.zip p.fn).all (fun q => linkB p q.1 q.2) = true) (hglo : ∀ d ∈ p.defs, He.Fa.glo d.name ∈ fa) (hfree : ∀ x ∈ bltL, He.Fa.free x ∈ fa) (hfe : He.Fa.free (Str.ofString "LookupError") ∈ fa ∧ He.Fa.free (Str.ofString "ValueError") ∈ fa) (hfe2 : He.Fa.free (Str.ofString "KeyError") ∈ fa ∧ He.Fa.free (Str.ofString "IndexError") ∈ fa)
    (hb : ∀ (i : Nat) (d : Def) (dd : He.DefD), p.defs[i]? = some d → p.fn[i]? = some dd → ∀ fd, FunD K dd.name dd.qual dd.params dd.body dd.scope (dd.dvs K) (dd.kws K) (He.fAd K dd.at_) fd → Binds K fd (d.N.take d.np) [] ∧ ∀ ks ord, (i, ks, ord) ∈ p.kw → KwB K fd (d.N.take d.np) ks ord)
    (ht : ∀ e ∈ p.er, e.txt ∧ e.init ∈ fn) (tl : ∀ (i : Nat) (d : Def) (dd : He.DefD) k g, p.defs[i]? = some d → p.fn[i]? = some dd → d.told = some (k, g) → ToldOk p P w K mg base i d dd k g) : Linked p P w K mg base := by
  have fct : ∀ f ∈ fa, f.ok K = true := fun f hf => by
    obtain ⟨i, hi⟩ := List.mem_iff_getElem?.mp hf
    exact c.d.fact i hi
  have def2 : ∀ dd ∈ p.fn ++ fn, ∃ fd, FunD K dd.name dd.qual dd.params dd.body dd.scope (dd.dvs K) (dd.kws K) (He.fAd K dd.at_) fd := fun dd hd => by
    obtain ⟨i, hi⟩ := List.mem_iff_getElem?.mp hd
    exact c.d.def_ i hi
  have ce := c.e
  unfold erB at ce
  rw [Bool.and_eq_true, Bool.and_eq_true, Bool.and_eq_true, Bool.and_eq_true, List.all_eq_true, List.all_eq_true, List.all_eq_true, List.all_eq_true] at ce
  obtain ⟨⟨⟨⟨cb, ce1⟩, ce0⟩, ce3⟩, ce2⟩ := ce
  unfold erB2 at cb
  rw [Bool.and_eq_true, List.all_eq_true, List.all_eq_true] at cb
  have inN : ∀ x le a, (x, le, a) ∈ ersOf p.er p.ez → (x, He.ga K x, le) ∈ erN p.er p.ez K := fun x le a hx => by
    rcases List.mem_append.mp hx with h | h
    · obtain ⟨e, he, z⟩ := List.mem_map.mp h
      cases z
      exact List.mem_append_left _ (List.mem_map.mpr ⟨e, he, rfl⟩)
    · obtain ⟨e, he, z⟩ := List.mem_map.mp h
      cases z
      exact List.mem_append_right _ (List.mem_map.mpr ⟨e, he, rfl⟩)
  have la : (erAll p.er p.ez K).length = p.er.length + p.ez.length := by unfold erAll; rw [List.length_append, List.length_map, List.length_map]
  have adr_of : ∀ k e, (erAll p.er p.ez K)[k]? = some e → (p.G K).adr k = e.1 := fun k e h1 => by
    show (match (erAll p.er p.ez K)[k]? with | some e => e.1 | none => 0) = _
    rw [h1]
  have in_zip : ∀ k e, (erAll p.er p.ez K)[k]? = some e → (e, k) ∈ (erAll p.er p.ez K).zip (List.range (p.er.length + p.ez.length)) := fun k e h1 => by
    have lt := (List.getElem?_eq_some_iff.mp h1).1
    refine List.mem_iff_getElem?.mpr ⟨k, ?_⟩
    rw [List.getElem?_zip_eq_some]
    exact ⟨h1, by rw [List.getElem?_range (by omega)]⟩
  refine ⟨fun i d dd e1 e2 => ?_, fun i d e1 => ?_, fun d hd => He.glo_ok X G (fct _ (hglo d hd)), fun x hx => He.free_ok X G (fct _ (hfree x hx)), fun e he => ?_, fun e he => ErZ.errN X G (ce0 e he), fun k hk j hj => ?_, fun k l h1 z => ?_, ⟨He.free_ok X G (fct _ hfe.1), He.free_ok X G (fct _ hfe.2)⟩, ⟨He.free_ok X G (fct _ hfe2.1), He.free_ok X G (fct _ hfe2.2)⟩, fun x le a hx => by
    have := cb.1 _ (inN x le a hx)
    simp only [Bool.and_eq_true, decide_eq_true_eq] at this
    exact ⟨this.1.1.1, this.1.1.2, this.1.2, this.2⟩, fun x le a y le' a' hx hy => by
    have := List.all_eq_true.mp (cb.2 _ (inN x le a hx)) _ (inN y le' a' hy)
    exact of_decide_eq_true this, tl⟩
  · obtain ⟨fd, F⟩ := def2 dd (List.mem_append_left _ (List.mem_of_getElem? e2))
    exact ⟨fd, F, hb i d dd e1 e2 fd F⟩
  · have lt := (List.getElem?_eq_some_iff.mp e1).1
    have e2 : p.fn[i]? = some (p.fn[i]'(by omega)) := List.getElem?_eq_getElem _
    refine ⟨_, e2, ?_⟩
    have := List.all_eq_true.mp hlk (d, p.fn[i]'(by omega)) (List.mem_iff_getElem?.mpr ⟨i, by rw [List.getElem?_zip_eq_some]; exact ⟨e1, e2⟩⟩)
    exact this
  · obtain ⟨h1, h2⟩ := ht e he
    have c1 := ce1 e he
    have tx := h1
    obtain ⟨_, _, _, _, _, _, _, t8, t9⟩ := tx
    exact ⟨ErC.errT X G c1 h1 (def2 _ (List.mem_append_right _ h2)), t8, t9⟩
  · have e1 : (erAll p.er p.ez K)[k]? = some _ := List.getElem?_eq_getElem (by omega)
    have e2 : (erAll p.er p.ez K)[j]? = some _ := List.getElem?_eq_getElem (by omega)
    have c1 := List.all_eq_true.mp (ce2 _ (in_zip k _ e1)) _ (in_zip j _ e2)
    rw [adr_of k _ e1, adr_of j _ e2]
    exact of_decide_eq_true c1
  · have lt : k < (erAll p.er p.ez K).length := by
      rw [la]
      have := (List.getElem?_eq_some_iff.mp h1).1
      unfold Prog.les at this
      rw [List.length_append, List.length_map, List.length_map] at this
      exact this
    have e1 : (erAll p.er p.ez K)[k]? = some _ := List.getElem?_eq_getElem lt
    have el : ((erAll p.er p.ez K).map (·.2)) = p.les := by unfold erAll Prog.les; rw [List.map_append, List.map_map, List.map_map]; rfl
    have e2 : (erAll p.er p.ez K)[k].2 = l := by
      rw [← el, List.getElem?_map, e1] at h1
      exact Option.some.inj h1
    have c1 := ce3 _ (List.mem_of_getElem? e1)
    rw [Bool.and_eq_true, decide_eq_true_eq, decide_eq_true_eq, e2] at c1
    rw [adr_of k _ e1]
    cases z with
    | true => rw [show PySem.W.kitOne K _ (.type (baseN true)) = some l from c1.1]; cases l <;> rfl
    | false => rw [show PySem.W.kitOne K _ (.type (baseN false)) = some (!l) from c1.2]; cases l <;> rfl
end Py
namespace Py
open PySem PySem.Spec PyProof.Rows L2
/-- keywords alone, by the row's arguments -/
theorem kwb_of {K : PySem.W.Frag} {x qual : Str} {params : Arguments} {body : List Stmt} {scope : Scope} {kws : List (Str × V)} {f : Addr} {fd : FuncData} {ps ks : List Str} {ord : List Nat} (F : FunD K x qual params body scope [] kws f fd)
    (h : ∀ (kV doc pm : Value) (an : Option Addr) (cdv ct : Value) (ws : List Value), ws.length = ks.length → bindArgs (PySem.W.fnOf x qual params body scope .none kV doc pm an cdv ct) ⟨[], ks.zip ws⟩ = pure (ps.zip (ord.map fun j => ws.getD j .none))) : KwB K fd ps ks ord := by
  obtain ⟨oc, od, dV, kV, doc, pm, an, cdv, ct, osl, rfl, lk, hcd, hD, hK⟩ := F.ex
  rcases hD with ⟨_, rfl⟩ | ⟨e, _⟩
  · exact fun s ws _ hl => .of_eq (h kV doc pm an cdv ct ws hl)
  · exact absurd rfl e
end Py
namespace Py
open PySem PySem.Spec PyProof.Rows L2
/-- where no exception is let out -/
theorem fn_calm {P : Program} {w : World} {K : PySem.W.Frag} {mg : Str → Option Value} {base : Heap} {k : Nat} {f : Addr} {fd : FuncData} {ps : List Str} {sp : Sp} (F : FnOk P w K mg base (L2.CX P w) k f fd ps sp) : FnOk P w K mg base CX0 k f fd ps (fun vs H Q E => sp vs H Q fun _ _ _ => False) := by
  refine ⟨fun vs H Q E h => F.len _ _ _ _ h, fun A outer s H args us vs Q E hr he hb hv hs => codeAny_mono (F.run A outer s H args us vs Q (fun _ _ _ => False) hr he hb hv hs) fun r s' z => ?_⟩
  cases r with
  | ok fl => cases fl <;> exact z
  | error e =>
    obtain ⟨_, _, _, _, _, _, _, _, _, _, _, _, h⟩ := z
    exact h.elim
/-- a law's promise, by the evaluator's answer -/
theorem law_sp {G : Exi} {K : PySem.W.Frag} {cf : CF} {fr : Bool} {i : Nat} {H : Hp} {a : Addr} {ns : List Int} {o : D} (hO : Only H) (hl : ns.length ≤ 63) (hS : SqL K H a (ns.map V.int)) (h : cf i [.fz (ns.map D.int)] = .ok (.bl true, o)) :
    SpN G K cf fr i 1 [.ref a] H (fun v _ => v = .bl true) fun _ _ _ => False := by
  have hints : ∀ ns : List Int, DaL K H (fun _ => False) (ns.map D.int) (ns.map V.int) := fun ns => by
    induction ns with
    | nil => exact DaL.nil
    | cons x xs ih => exact DaL.cons Da.int ih
  refine ⟨[.fz (ns.map D.int)], fun _ => False, rfl, fun a z => z.elim, DaL.cons ?_ DaL.nil, ?_⟩
  · simp only [Da]
    refine ⟨a, ns.map V.int, rfl, ?_, by rw [List.length_map]; show _ ≤ 16777216; omega, hints ns⟩
    rcases hS with hS | hS
    · rcases hO a with z | ⟨o, xs, z⟩
      · rcases hS with y | ⟨ob, y⟩
        · rw [z] at y; cases y
        · rw [z] at y; cases y
      · rcases hS with y | ⟨ob, y⟩
        · rw [z] at y; cases y
        · exact .inl ⟨ob, y, fun w => w⟩
    · exact .inr fun H' => .inr hS
  · rw [h]
    intro v H' _ dv _
    simpa only [Da] using dv
end Py
set_option Elab.async false
set_option linter.all false
set_option maxRecDepth 100000
set_option maxHeartbeats 400000
/-! the evaluator's rules, as equations -/
namespace Py
open PySem PySem.Spec PyProof.Rows L2
section
variable {α β : Type}
@[simp] theorem ok_bind {a : α} {f : α → R β} : (R.ok a).bind f = f a := Eq.trans rfl rfl
@[simp] theorem er_bind {c : Nat} {p : Option D} {f : α → R β} : (R.er c p : R α).bind f = .er c p := Eq.trans rfl rfl
@[simp] theorem noer_ok {a : α} : noer (R.ok a) = .ok a := Eq.trans rfl rfl
end
section
variable {cf : CF} {η : Env}
@[simp] theorem ev_k {d : D} : ev cf (.k d) η = .ok (d, η) := Eq.trans rfl rfl
@[simp] theorem ev_v {i : Nat} : ev cf (.v i) η = match η[i]? with
    | some (some d) => .ok (d, η)
    | _ => .st := Eq.trans rfl rfl
@[simp] theorem ev_mv {i : Nat} : ev cf (.mv i) η = match η[i]? with
    | some (some d) => .ok (d, η.set i none)
    | _ => .st := Eq.trans rfl rfl
@[simp] theorem ev_tup {es : List E} : ev cf (.tup es) η = (evs cf es η).bind fun (os, η') => (noer (rds os η')).bind fun ds => if (places os).isEmpty then .ok (.tup ds, η') else .st := Eq.trans rfl rfl
@[simp] theorem ev_lst {es : List E} : ev cf (.lst es) η = (evs cf es η).bind fun (os, η') => (noer (rds os η')).bind fun ds => if (places os).isEmpty then .ok (.lst ds, η') else .st := Eq.trans rfl rfl
@[simp] theorem ev_bin {o : Bop} {a b : E} : ev cf (.bin o a b) η = (opd a (ev cf a) η).bind fun (x, η1) => (opd b (ev cf b) η1).bind fun (y, η2) => (noer (rd x η2)).bind fun dx => (noer (rd y η2)).bind fun dy => (noer (binop o dx dy)).bind fun d => .ok (d, η2) := Eq.trans rfl rfl
@[simp] theorem ev_neg {a : E} : ev cf (.neg a) η = (ev cf a η).bind fun (d, η1) => (noer (dInt d)).bind fun i => .ok (.int (-i), η1) := Eq.trans rfl rfl
@[simp] theorem ev_cmp {o : Cop} {a b : E} : ev cf (.cmp o a b) η = (opd a (ev cf a) η).bind fun (x, η1) => (opd b (ev cf b) η1).bind fun (y, η2) => (noer (rd x η2)).bind fun dx => (noer (rd y η2)).bind fun dy => (noer (cmpop o dx dy)).bind fun d => .ok (.bl d, η2) := Eq.trans rfl rfl
@[simp] theorem ev_isn {a : E} : ev cf (.isn a) η = (opd a (ev cf a) η).bind fun (x, η1) => (noer (rd x η1)).bind fun d => .ok (.bl (isNonD d), η1) := Eq.trans rfl rfl
@[simp] theorem ev_notn {a : E} : ev cf (.notn a) η = (opd a (ev cf a) η).bind fun (x, η1) => (noer (rd x η1)).bind fun d => .ok (.bl (!isNonD d), η1) := Eq.trans rfl rfl
@[simp] theorem ev_chain {o o' : Cop} {a b c : E} : ev cf (.chain o o' a b c) η = (ev cf a η).bind fun (x, η1) => (ev cf b η1).bind fun (y, η2) => (noer (cmpop o x y)).bind fun k =>
    if k then (ev cf c η2).bind fun (z, η3) => (noer (cmpop o' y z)).bind fun k' => .ok (.bl k', η3) else .ok (.bl false, η2) := Eq.trans rfl rfl
@[simp] theorem ev_and {a b : E} : ev cf (.and a b) η = (ev cf a η).bind fun (d, η1) => (noer (truth d)).bind fun k => if k then ev cf b η1 else .ok (d, η1) := Eq.trans rfl rfl
@[simp] theorem ev_or {a b : E} : ev cf (.or a b) η = (ev cf a η).bind fun (d, η1) => (noer (truth d)).bind fun k => if k then .ok (d, η1) else ev cf b η1 := Eq.trans rfl rfl
@[simp] theorem ev_not {a : E} : ev cf (.not a) η = (opd a (ev cf a) η).bind fun (x, η1) => (noer (rd x η1)).bind fun d => (noer (truth d)).bind fun k => .ok (.bl (!k), η1) := Eq.trans rfl rfl
@[simp] theorem ev_ife {c a b : E} : ev cf (.ife c a b) η = (opd c (ev cf c) η).bind fun (x, η1) => (noer (rd x η1)).bind fun d => (noer (truth d)).bind fun k => if k then ev cf a η1 else ev cf b η1 := Eq.trans rfl rfl
@[simp] theorem ev_ix {a i : E} : ev cf (.ix a i) η = (opd a (ev cf a) η).bind fun (x, η1) => (ev cf i η1).bind fun (y, η2) => (noer (rd x η2)).bind fun d => (noer (ixD d y)).bind fun z => .ok (z, η2) := Eq.trans rfl rfl
@[simp] theorem ev_sl {a lo hi : E} : ev cf (.sl a lo hi) η = (opd a (ev cf a) η).bind fun (x, η1) => (part lo (ev cf lo) η1).bind fun (l, η2) => (part hi (ev cf hi) η2).bind fun (h, η3) => (noer (rd x η3)).bind fun d => (noer (slD d l h)).bind fun z => .ok (z, η3) := Eq.trans rfl rfl
@[simp] theorem ev_rev {a : E} : ev cf (.rev a) η = (opd a (ev cf a) η).bind fun (x, η1) => (noer (rd x η1)).bind fun d => (noer (revD d)).bind fun z => .ok (z, η1) := Eq.trans rfl rfl
@[simp] theorem ev_f2 {f : F2} {a b : E} : ev cf (.f2 f a b) η = (ev cf a η).bind fun (x, η1) => (ev cf b η1).bind fun (y, η2) => (noer (f2D f x y)).bind fun z => .ok (z, η2) := Eq.trans rfl rfl
@[simp] theorem ev_isi {a : E} {ts : List Ty} : ev cf (.isi a ts) η = (opd a (ev cf a) η).bind fun (x, η1) => (noer (rd x η1)).bind fun d => if noneOrTy d then .ok (.bl (ts.any (isTy d)), η1) else .st := Eq.trans rfl rfl
@[simp] theorem ev_call {f : Nat} {mu : Bool} {as : List E} : ev cf (.call f mu as) η = (evs cf as η).bind fun (os, η1) => (noer (rds os η1)).bind fun ds => (cf f ds).bind fun (d, out) => (noer (after mu os d out η1)).bind fun η2 => .ok (d, η2) := Eq.trans rfl rfl
@[simp] theorem ev_callk {f : Nat} {ord : List Nat} {as : List E} : ev cf (.callk f false ord as) η = (evs cf as η).bind fun (os, η1) => (noer (rds os η1)).bind fun ds => (cf f (ord.map fun j => ds.getD j .non)).bind fun (d, _) => .ok (d, dropP d (places os) η1) := Eq.trans rfl rfl
@[simp] theorem ev_callb {f g : Nat} {as : List E} : ev cf (.callb f g as) η = (evs cf as η).bind fun (os, η1) => (noer (rds os η1)).bind fun ds => (cf g ds).bind fun (b, _) => (cf f [b]).bind fun (d, _) => .ok (d, dropP b (places os) η1) := Eq.trans rfl rfl
@[simp] theorem asLst_lst {xs : List D} : asLst (.lst xs) = .ok (.lst xs) := Eq.trans rfl rfl
@[simp] theorem asLst_dc {ks : List Int} {ds : List D} : asLst (.dc ks ds) = .ok (.dc ks ds) := Eq.trans rfl rfl
@[simp] theorem ev_mk0 {nm : Str} : ev cf (.mk0 nm) η = .ok (.er nm (Str.ofString "") [], η) := Eq.trans rfl rfl
@[simp] theorem ev_mk1 {nm at_ : Str} {a : E} : ev cf (.mk1 nm at_ a) η = (ev cf a η).bind fun (d, η1) => .ok (.er nm at_ [d], η1) := Eq.trans rfl rfl
@[simp] theorem ev_att {ns : List Str} {at_ : Str} {a : E} : ev cf (.att ns at_ a) η = (ev cf a η).bind fun (d, η1) => (noer (attD ns at_ d)).bind fun z => .ok (z, η1) := Eq.trans rfl rfl
@[simp] theorem ev_isE {ns : List (Str × Bool)} {a : E} {t : ET} : ev cf (.isE ns a t) η = (ev cf a η).bind fun (d, η1) => (noer (isED ns t d)).bind fun b => .ok (.bl b, η1) := Eq.trans rfl rfl
@[simp] theorem ev_f1rg {f : F1} {a : E} : ev cf (.f1 f (.rg1 a)) η = (ev cf a η).bind fun (n, η1) => (noer (rngItems (.int 0) n)).bind fun ds => if ds.length ≤ LIM then (noer (f1D f (.lst ds))).bind fun z => .ok (z, η1) else .st := Eq.trans rfl rfl
theorem ev_f1x {f : F1} {a : E} (h : ∀ b, a ≠ .rg1 b) : ev cf (.f1 f a) η = (opd a (ev cf a) η).bind fun (x, η1) => (noer (rd x η1)).bind fun d => (noer (f1D f d)).bind fun z => .ok (z, η1) := by
  cases a <;> first | rfl | exact absurd rfl (h _)
@[simp] theorem evs_nil : evs cf [] η = .ok ([], η) := Eq.trans rfl rfl
@[simp] theorem evs_cons {a : E} {as : List E} : evs cf (a :: as) η = (opd a (ev cf a) η).bind fun (x, η1) => (evs cf as η1).bind fun (os, η2) => .ok (x :: os, η2) := Eq.trans rfl rfl
theorem opd_x {q : E} {r : Env → R (D × Env)} (h : ∀ i, q ≠ .p i) : opd q r η = (r η).bind fun (d, η') => .ok (.inl d, η') := by
  cases q <;> first | rfl | exact absurd rfl (h _)
@[simp] theorem opd_p {i : Nat} {r : Env → R (D × Env)} : opd (.p i) r η = match η[i]? with
    | some (some _) => .ok (.inr i, η)
    | _ => .st := Eq.trans rfl rfl
@[simp] theorem rd_inl {d : D} : rd (.inl d) η = .ok d := Eq.trans rfl rfl
@[simp] theorem rd_inr {i : Nat} : rd (.inr i) η = match η[i]? with
    | some (some d) => .ok d
    | _ => .st := Eq.trans rfl rfl
@[simp] theorem lstD_lst {xs : List D} : lstD (.lst xs) = .ok (.lst xs) := Eq.trans rfl rfl
@[simp] theorem rds_nil : rds [] η = .ok [] := Eq.trans rfl rfl
@[simp] theorem rds_cons {o : Opd} {os : List Opd} : rds (o :: os) η = (rd o η).bind fun d => (rds os η).bind fun ds => .ok (d :: ds) := Eq.trans rfl rfl
@[simp] theorem places_nil : places [] = [] := Eq.trans rfl rfl
@[simp] theorem places_inl {d : D} {os : List Opd} : places (.inl d :: os) = places os := Eq.trans rfl rfl
@[simp] theorem places_inr {i : Nat} {os : List Opd} : places (.inr i :: os) = i :: places os := Eq.trans rfl rfl
@[simp] theorem part_no {r : Env → R (D × Env)} : part .no r η = .ok (none, η) := Eq.trans rfl rfl
theorem part_x {q : E} {r : Env → R (D × Env)} (h : q ≠ .no) : part q r η = (r η).bind fun (d, η') => (noer (dInt d)).bind fun i => .ok (some i, η') := by
  cases q <;> first | rfl | exact absurd rfl h
@[simp] theorem killE_nil : killE η [] = η := Eq.trans rfl rfl
@[simp] theorem killE_cons {i : Nat} {is : List Nat} : killE η (i :: is) = (killE η is).set i none := Eq.trans rfl rfl
@[simp] theorem after_n' {os : List Opd} {d out : D} : after false os d out η = .ok (dropP d (places os) η) := Eq.trans rfl rfl
@[simp] theorem dropP_nil {d : D} : dropP d [] η = η := by unfold dropP; split <;> rfl
@[simp] theorem after_m' {i : Nat} {os : List Opd} {d out : D} : after true (.inr i :: os) d out η = if i ∈ places os then .st else .ok ((killE η (places os)).set i (some out)) := Eq.trans rfl rfl
@[simp] theorem bindT_name {i : Nat} {d : D} : bindT (.name i) d η = .ok (η.set i (some d)) := Eq.trans rfl rfl
@[simp] theorem bindT_tup {ts : List Tg} {xs : List D} : bindT (.tup ts) (.tup xs) η = bindTs ts xs η := Eq.trans rfl rfl
@[simp] theorem bindTs_nil : bindTs [] [] η = .ok η := Eq.trans rfl rfl
@[simp] theorem bindTs_cons {t : Tg} {ts : List Tg} {x : D} {xs : List D} : bindTs (t :: ts) (x :: xs) η = (bindT t x η).bind fun η1 => bindTs ts xs η1 := Eq.trans rfl rfl
@[simp] theorem truth_bl {b : Bool} : truth (.bl b) = .ok b := Eq.trans rfl rfl
@[simp] theorem dInt_int {i : Int} : dInt (.int i) = .ok i := Eq.trans rfl rfl
end
/-! ### comprehensions -/
section
variable {cf : CF} {η : Env}
theorem lcGo_pure {α : Type} {T : Tg} {vs : List Nat} {c b : Env → R (D × Env)} {η0 : Env} (f : α → D) (e : α → Env) (p : α → Bool) (g : α → D) : ∀ (l : List α), (∀ a ∈ l, bindT T (f a) (killE η0 vs) = .ok (e a)) → (∀ a ∈ l, killE (e a) vs = killE η0 vs) → (∀ a ∈ l, c (e a) = .ok (.bl (p a), e a)) → (∀ a ∈ l, p a = true → b (e a) = .ok (g a, e a)) →
    ∀ η, killE η vs = killE η0 vs → ∃ η', lcGo T vs c b (l.map f) η = .ok ((l.filter p).map g, η') ∧ killE η' vs = killE η0 vs
  | [], _, _, _, _, η, h => ⟨η, rfl, h⟩
  | a :: l, hb, hk, hc, hg, η, h => by
    obtain ⟨η', e1, e2⟩ := lcGo_pure (c := c) (b := b) f e p g l (fun x hx => hb x (List.mem_cons_of_mem _ hx)) (fun x hx => hk x (List.mem_cons_of_mem _ hx)) (fun x hx => hc x (List.mem_cons_of_mem _ hx)) (fun x hx => hg x (List.mem_cons_of_mem _ hx)) (e a) (hk a (List.mem_cons_self ..))
    refine ⟨η', ?_, e2⟩
    show (noer (bindT T (f a) (killE η vs))).bind _ = _
    rw [h, hb a (List.mem_cons_self ..)]
    show (c (e a)).bind _ = _
    rw [hc a (List.mem_cons_self ..)]
    show (if p a = true then (b (e a)).bind _ else _) = _
    cases hp : p a with
    | true =>
      rw [if_pos rfl, hg a (List.mem_cons_self ..) hp, List.filter_cons_of_pos hp]
      show (lcGo T vs c b (l.map f) (e a)).bind _ = _
      rw [e1]; rfl
    | false =>
      rw [if_neg Bool.false_ne_true, List.filter_cons_of_neg (by rw [hp]; exact Bool.false_ne_true)]
      exact e1
theorem backE_eq {η η' : Env} : ∀ {vs : List Nat}, killE η' vs = killE η vs → (∀ i ∈ vs, i < η.length) → backE η' η vs = η := by
  have len : ∀ (η : Env) (vs : List Nat), (killE η vs).length = η.length := fun η vs => by
    induction vs with
    | nil => rfl
    | cons i is ih => rw [killE_cons, List.length_set, ih]
  have lenB : ∀ (η η0 : Env) (vs : List Nat), (backE η η0 vs).length = η.length := fun η η0 vs => by
    induction vs with
    | nil => rfl
    | cons i is ih => show ((backE η η0 is).set i _).length = _; rw [List.length_set, ih]
  have getK : ∀ (η : Env) (vs : List Nat) (j : Nat), j ∉ vs → (killE η vs)[j]? = η[j]? := fun η vs j => by
    induction vs with
    | nil => intro _; rfl
    | cons i is ih =>
      intro h
      rw [killE_cons, List.getElem?_set_ne (by intro z; subst z; exact h (List.mem_cons_self ..)), ih fun z => h (List.mem_cons_of_mem _ z)]
  have getB : ∀ (η η0 : Env) (vs : List Nat) (j : Nat), j < η.length → (backE η η0 vs)[j]? = if j ∈ vs then some (η0[j]?).join else η[j]? := fun η η0 vs j hj => by
    induction vs with
    | nil => rfl
    | cons i is ih =>
      show ((backE η η0 is).set i (η0[i]?).join)[j]? = _
      by_cases z : j = i
      · subst z
        rw [List.getElem?_set_self (by rw [lenB]; exact hj), if_pos (List.mem_cons_self ..)]
      · rw [List.getElem?_set_ne (Ne.symm z), ih]
        by_cases m : j ∈ is
        · rw [if_pos m, if_pos (List.mem_cons_of_mem _ m)]
        · rw [if_neg m, if_neg (fun y => (List.mem_cons.mp y).elim z m)]
  intro vs h hv
  have hl : η'.length = η.length := by rw [← len η' vs, h, len]
  refine List.ext_getElem? fun j => ?_
  by_cases hj : j < η'.length
  · rw [getB _ _ _ _ hj]
    by_cases m : j ∈ vs
    · rw [if_pos m]
      have lt : j < η.length := by omega
      rw [List.getElem?_eq_getElem lt]; rfl
    · rw [if_neg m, ← getK η' vs j m, h, getK _ _ _ m]
  · rw [List.getElem?_eq_none (by rw [lenB]; omega), List.getElem?_eq_none (by omega)]
theorem ev_lc {α : Type} {q c src : E} {t : Tg} {z z' : D} (l : List α) (f : α → D) (e : α → Env) (p : α → Bool) (g : α → D) (hs : evSrc cf src η = .ok (l.map f, .inl z, z', η)) (hv : ∀ i ∈ tgSlots t, i < η.length) (hb : ∀ a ∈ l, bindT t (f a) (killE η (tgSlots t)) = .ok (e a)) (hk : ∀ a ∈ l, killE (e a) (tgSlots t) = killE η (tgSlots t))
    (hc : ∀ a ∈ l, ev cf c (e a) = .ok (.bl (p a), e a)) (hg : ∀ a ∈ l, p a = true → ev cf q (e a) = .ok (g a, e a)) (hl : l.length ≤ LIM) : ev cf (.lc q t src c) η = .ok (.lst ((l.filter p).map g), η) := by
  show (evSrc cf src η).bind _ = _
  rw [hs]
  obtain ⟨η', e1, e2⟩ := lcGo_pure (T := t) (vs := tgSlots t) (c := ev cf c) (b := ev cf q) (η0 := η) f e p g l hb hk hc hg η rfl
  show (noer (lcGo t (tgSlots t) (ev cf c) (ev cf q) (l.map f) η)).bind _ = _
  rw [e1]
  rw [noer_ok, ok_bind]
  show (Py.R.ok (backE η' η (tgSlots t))).bind _ = _
  rw [backE_eq e2 hv]
  show (if ((l.filter p).map g).length ≤ LIM then _ else _) = _
  rw [if_pos (by rw [List.length_map]; exact Nat.le_trans (List.length_filter_le ..) hl)]
end
/-! ### statements -/
section
variable {cf : CF} {own : List Nat} {η : Py.Env}
@[simp] theorem exs_nil : exs cf own [] η = .ok (.nx η) := Eq.trans rfl rfl
@[simp] theorem exs_cons {s : S} {ss : List S} : exs cf own (s :: ss) η = (ex cf own s η).bind fun f => match f with
    | .nx η1 => exs cf own ss η1
    | f => .ok f := Eq.trans rfl rfl
@[simp] theorem ex_set {i : Nat} {e : E} : ex cf own (.set i e) η = (ev cf e η).bind fun (d, η1) => .ok (.nx (η1.set i (some d))) := Eq.trans rfl rfl
@[simp] theorem ex_own {i : Nat} {e : E} : ex cf own (.own i e) η = (ev cf e η).bind fun (d, η1) => (noer (asLst d)).bind fun z => .ok (.nx (η1.set i (some z))) := Eq.trans rfl rfl
@[simp] theorem ex_par {is : List (Nat × Bool)} {es : List E} : ex cf own (.par is es) η = (evals cf es η).bind fun (ds, η1) => (noer (setAll is ds η1)).bind fun η2 => .ok (.nx η2) := Eq.trans rfl rfl
@[simp] theorem ex_unp {t : Tg} {e : E} : ex cf own (.unp t e) η = (ev cf e η).bind fun (d, η1) => (noer (bindT t d η1)).bind fun η2 => .ok (.nx η2) := Eq.trans rfl rfl
@[simp] theorem ex_app {i : Nat} {e : E} : ex cf own (.app i e) η = (noer ((rd (.inr i) η).bind lstD)).bind fun _ => (ev cf e η).bind fun (d, η1) => (noer (rd (.inr i) η1)).bind fun l => (noer (appK l d)).bind fun z => .ok (.nx (η1.set i (some z))) := Eq.trans rfl rfl
@[simp] theorem ex_ext {i : Nat} {e : E} : ex cf own (.ext i e) η = (noer ((rd (.inr i) η).bind lstD)).bind fun _ => (ev cf e η).bind fun (d, η1) => (noer (rd (.inr i) η1)).bind fun l => (noer (extK l d)).bind fun z => .ok (.nx (η1.set i (some z))) := Eq.trans rfl rfl
@[simp] theorem ex_put {i : Nat} {k e : E} : ex cf own (.put i k e) η = (ev cf e η).bind fun (d, η1) => (noer (rd (.inr i) η1)).bind fun _ => (ev cf k η1).bind fun (j, η2) => (noer (rd (.inr i) η2)).bind fun l => (noer (putK l j d)).bind fun z => .ok (.nx (η2.set i (some z))) := Eq.trans rfl rfl
@[simp] theorem ex_rz {i t j : Nat} {nm at_ : Str} : ex cf own (.rz i t nm at_ j) η = (noer (rd (.inr j) η)).bind fun d => if i < η.length then .ok (.nx ((η.set i none).set t (some (.er nm at_ [d])))) else .st := Eq.trans rfl rfl
@[simp] theorem ex_aug {o : Bop} {i : Nat} {e : E} : ex cf own (.aug o i e) η = (noer (rd (.inr i) η)).bind fun x => (ev cf e η).bind fun (d, η1) => (noer (augK o x d)).bind fun z => .ok (.nx (η1.set i (some z))) := Eq.trans rfl rfl
@[simp] theorem ex_ret {e : E} : ex cf own (.ret e) η = (ev cf e η).bind fun (d, η1) => .ok (.rt d η1) := Eq.trans rfl rfl
@[simp] theorem ex_ret0 : ex cf own .ret0 η = .ok (.rt .non η) := Eq.trans rfl rfl
@[simp] theorem ex_if {c : E} {a b : List S} : ex cf own (.if_ c a b) η = (evT cf c η).bind fun (d, η1) => (noer (truth d)).bind fun k => if k then exs cf own a η1 else exs cf own b η1 := Eq.trans rfl rfl
@[simp] theorem ex_for {t : Tg} {src : E} {b : List S} : ex cf own (.for_ t src b) η = (evSrc cf src η).bind fun (ds, o, d, η1) => (forGo t (exs cf own b) ds η1).bind fun f => endK o d f := Eq.trans rfl rfl
@[simp] theorem ex_pass : ex cf own .pass η = .ok (.nx η) := Eq.trans rfl rfl
@[simp] theorem ex_brk : ex cf own .brk η = .ok (.bk η) := Eq.trans rfl rfl
@[simp] theorem ex_cont : ex cf own .cont η = .ok (.ct η) := Eq.trans rfl rfl
@[simp] theorem ex_ex {e : E} : ex cf own (.ex e) η = (ev cf e η).bind fun (_, η1) => .ok (.nx η1) := Eq.trans rfl rfl
@[simp] theorem ex_try {b : List S} {cs : List Nat} {hs : List (Nat × Nat × Option Nat × List Si)} : ex cf own (.try_ b cs hs) η = match exs cf own b η with
    | .er c p => if c ∈ cs then handle (killE (killE η own) (asgSs b)) c p hs else .st
    | r => r := Eq.trans rfl rfl
theorem ex_raise {c : Nat} {e : E} (h : e ≠ .no) : ex cf own (.raise c e) η = (ev cf e η).bind fun (d, _) => .er c (some d) := by cases e <;> first | rfl | exact absurd rfl h
@[simp] theorem evT_eq {c : E} : evT cf c η = (opd c (ev cf c) η).bind fun (x, η1) => (noer (rd x η1)).bind fun d => .ok (d, η1) := Eq.trans rfl rfl
@[simp] theorem evals_nil : evals cf [] η = .ok ([], η) := Eq.trans rfl rfl
@[simp] theorem evals_cons {a : E} {as : List E} : evals cf (a :: as) η = (ev cf a η).bind fun (d, η1) => (evals cf as η1).bind fun (ds, η2) => .ok (d :: ds, η2) := Eq.trans rfl rfl
@[simp] theorem setAll_nil : setAll [] [] η = .ok η := Eq.trans rfl rfl
@[simp] theorem setAll_cons {i : Nat × Bool} {is : List (Nat × Bool)} {d : D} {ds : List D} : setAll (i :: is) (d :: ds) η = setAll is ds (η.set i.1 (some d)) := Eq.trans rfl rfl
@[simp] theorem forGo_nil {T : Tg} {b : Py.Env → R Fl} : forGo T b [] η = .ok (.nx η) := Eq.trans rfl rfl
@[simp] theorem endK_rt {o : Opd} {d r : D} : endK o d (.rt r η) = .ok (.rt r η) := Eq.trans rfl rfl
@[simp] theorem endK_nx {o : Opd} {d : D} : endK o d (.nx η) = (noer (unlock o d η)).bind fun η3 => .ok (.nx η3) := Eq.trans rfl rfl
@[simp] theorem unlock_inl {d z : D} : unlock (.inl z) d η = .ok η := Eq.trans rfl rfl
@[simp] theorem lock_inl {z : D} : lock (.inl z) η = η := Eq.trans rfl rfl
theorem call_rt {defs : List Def} {n i : Nat} {df : Def} {ds : List D} {d : D} (h : defs[i]? = some df) (hl : ds.length = df.np) (hm : df.mu = false) (hb : ∃ η, exs (callN defs n) df.own df.body (startE df.N.length ds) = .ok (.rt d η)) (ht : df.told = none := by rfl) : callN defs (n + 1) i ds = .ok (d, .non) := by
  obtain ⟨η, e⟩ := hb
  show (match defs[i]? with
    | some df => if ds.length = df.np then runD n (callN defs n) df ds else .st
    | none => .st) = _
  rw [h]
  show (if ds.length = df.np then runD n (callN defs n) df ds else .st) = _
  rw [if_pos hl, runD_none ht]
  unfold runDef
  rw [e]
  show (noer (outD df.mu η)).bind _ = _
  rw [hm]; rfl
/-- a def without return -/
theorem call_nx {defs : List Def} {n i : Nat} {df : Def} {ds : List D} (h : defs[i]? = some df) (hl : ds.length = df.np) (hm : df.mu = false) (hf : df.fr = false) (hb : ∃ η, exs (callN defs n) df.own df.body (startE df.N.length ds) = .ok (.nx η)) (ht : df.told = none := by rfl) : callN defs (n + 1) i ds = .ok (.non, .non) := by
  obtain ⟨η, e⟩ := hb
  show (match defs[i]? with
    | some df => if ds.length = df.np then runD n (callN defs n) df ds else .st
    | none => .st) = _
  rw [h]
  show (if ds.length = df.np then runD n (callN defs n) df ds else .st) = _
  rw [if_pos hl, runD_none ht]
  unfold runDef
  rw [e]
  show (if df.fr = true then .st else (noer (outD df.mu η)).bind _) = _
  rw [hm, hf]; rfl
/-- one that raises -/
theorem call_er {defs : List Def} {n i c : Nat} {p : Option D} {df : Def} {ds : List D} (h : defs[i]? = some df) (hl : ds.length = df.np) (hb : exs (callN defs n) df.own df.body (startE df.N.length ds) = .er c p) (ht : df.told = none := by rfl) : callN defs (n + 1) i ds = .er c p := by
  show (match defs[i]? with
    | some df => if ds.length = df.np then runD n (callN defs n) df ds else .st
    | none => .st) = _
  rw [h]
  show (if ds.length = df.np then runD n (callN defs n) df ds else .st) = _
  rw [if_pos hl, runD_none ht]
  unfold runDef
  rw [hb]; rfl
/-- one that changes its first argument -/
theorem call_mt {defs : List Def} {n i : Nat} {df : Def} {ds : List D} {d o : D} (h : defs[i]? = some df) (hl : ds.length = df.np) (hm : df.mu = true) (hb : ∃ η, exs (callN defs n) df.own df.body (startE df.N.length ds) = .ok (.rt d η) ∧ η[0]? = some (some o)) (ht : df.told = none := by rfl) : callN defs (n + 1) i ds = .ok (d, o) := by
  obtain ⟨η, e, e0⟩ := hb
  show (match defs[i]? with
    | some df => if ds.length = df.np then runD n (callN defs n) df ds else .st
    | none => .st) = _
  rw [h]
  show (if ds.length = df.np then runD n (callN defs n) df ds else .st) = _
  rw [if_pos hl, runD_none ht]
  unfold runDef
  rw [e]
  show (noer (outD df.mu η)).bind _ = _
  rw [hm]
  unfold outD
  simp only [if_true, e0]
  rfl
/-- one that is told -/
theorem call_tl {defs : List Def} {n i k : Nat} {df : Def} {ds : List D} {d : D} {g : List D → R D} (h : defs[i]? = some df) (hl : ds.length = df.np) (ht : df.told = some (k, g)) (hk : k ≤ n) (hg : g ds = .ok d) : callN defs (n + 1) i ds = .ok (d, .non) := by
  show (match defs[i]? with
    | some df => if ds.length = df.np then runD n (callN defs n) df ds else .st
    | none => .st) = _
  rw [h]
  show (if ds.length = df.np then runD n (callN defs n) df ds else .st) = _
  rw [if_pos hl, runD_some ht, if_pos hk, hg]; rfl
end
end Py
namespace Py
open PySem PySem.Spec PyProof.Rows L2
@[simp] theorem f1_lenT {xs : List D} : f1D .len (.tup xs) = .ok (.int xs.length) := Eq.trans rfl rfl
@[simp] theorem f1_lenL {xs : List D} : f1D .len (.lst xs) = .ok (.int xs.length) := Eq.trans rfl rfl
@[simp] theorem f1_tupL {xs : List D} : f1D .tuple (.lst xs) = .ok (.tup xs) := Eq.trans rfl rfl
@[simp] theorem f1_tupT {xs : List D} : f1D .tuple (.tup xs) = .ok (.tup xs) := Eq.trans rfl rfl
@[simp] theorem f1_lstL {xs : List D} : f1D .list (.lst xs) = .ok (.lst xs) := Eq.trans rfl rfl
@[simp] theorem f1_lstT {xs : List D} : f1D .list (.tup xs) = .ok (.lst xs) := Eq.trans rfl rfl
@[simp] theorem f1_intI {i : Int} : f1D .int (.int i) = .ok (.int i) := Eq.trans rfl rfl
@[simp] theorem f1_intB {b : Bool} : f1D .int (.bl b) = .ok (.int (if b then 1 else 0)) := Eq.trans rfl rfl
@[simp] theorem f1_absI {i : Int} : f1D .abs (.int i) = .ok (.int (if i < 0 then -i else i)) := Eq.trans rfl rfl
end Py
namespace Py
open PySem PySem.Spec PyProof.Rows L2
@[simp] theorem bin_add {i j : Int} : binop .add (.int i) (.int j) = .ok (.int (i + j)) := Eq.trans rfl rfl
@[simp] theorem bin_sub {i j : Int} : binop .sub (.int i) (.int j) = .ok (.int (i - j)) := Eq.trans rfl rfl
theorem bin_mul {i j : Int} (h : small i = true ∨ small j = true) : binop .mul (.int i) (.int j) = .ok (.int (i * j)) := by
  show (if small i || small j then R.ok (D.int (i * j)) else .st) = _
  rw [if_pos (by rw [Bool.or_eq_true]; exact h)]
theorem bin_mod {i j : Int} (h : 0 < j) : binop .mod (.int i) (.int j) = .ok (.int (i % j)) := by
  show (if 0 < j then R.ok (D.int (i % j)) else .st) = _
  rw [if_pos h]
theorem bin_fdiv {i j : Int} (h : 0 < j) (h2 : j < 1073741824) : binop .fdiv (.int i) (.int j) = .ok (.int (i / j)) := by
  show (if decide (0 < j) && decide (j < 1073741824) then R.ok (D.int (i / j)) else .st) = _
  rw [if_pos (by rw [Bool.and_eq_true, decide_eq_true_eq, decide_eq_true_eq]; exact ⟨h, h2⟩)]
theorem bin_catL {xs ys : List D} (h : xs.length + ys.length ≤ 1000000) : binop .add (.lst xs) (.lst ys) = .ok (.lst (xs ++ ys)) := by
  show (if xs.length + ys.length ≤ LIM then R.ok (D.lst (xs ++ ys)) else .st) = _
  rw [if_pos (by show _ ≤ 16777216; omega)]
theorem bin_catT {xs ys : List D} (h : xs.length + ys.length ≤ 1000000) : binop .add (.tup xs) (.tup ys) = .ok (.tup (xs ++ ys)) := by
  show (if xs.length + ys.length ≤ LIM then R.ok (D.tup (xs ++ ys)) else .st) = _
  rw [if_pos (by show _ ≤ 16777216; omega)]
theorem cmp_ge {a b : Int} : cmpop .ge (.int a) (.int b) = .ok (decide (b ≤ a)) := Eq.trans rfl rfl
theorem cmp_lt {a b : Int} : cmpop .lt (.int a) (.int b) = .ok (decide (a < b)) := Eq.trans rfl rfl
theorem cmp_gt {a b : Int} : cmpop .gt (.int a) (.int b) = .ok (decide (b < a)) := Eq.trans rfl rfl
theorem cmp_le {a b : Int} : cmpop .le (.int a) (.int b) = .ok (decide (a ≤ b)) := Eq.trans rfl rfl
theorem cmp_eq {a b : D} : cmpop .eq a b = deq a b := Eq.trans rfl rfl
theorem cmp_ne {a b : D} : cmpop .ne a b = (deq a b).bind fun x => .ok (!x) := Eq.trans rfl rfl
theorem cmp_in {a b : D} : cmpop .in_ a b = isIn a b := Eq.trans rfl rfl
theorem cmp_ni {a b : D} : cmpop .notin a b = (isIn a b).bind fun x => .ok (!x) := Eq.trans rfl rfl
end Py
namespace Py
open PySem PySem.Spec PyProof.Rows L2
@[simp] theorem ev_popQ {cf : CF} {η : Py.Env} {i : Nat} {a : E} : ev cf (.pop i a) η = (noer ((rd (.inr i) η).bind lstD)).bind fun _ => (part a (ev cf a) η).bind fun (o, η1) => (noer (rd (.inr i) η1)).bind fun d => (noer (popK d o)).bind fun (z, ys) => .ok (z, η1.set i (some (.lst ys))) := Eq.trans rfl rfl
end Py
set_option Elab.async false
set_option linter.all false
set_option maxRecDepth 100000
set_option maxHeartbeats 1000000
namespace Py
open PySem PySem.Spec PyProof.Rows L2
/-! ### items by place -/
def gt (c : List D) (j : Nat) : D := c.getD j .non
theorem gt_lt {c : List D} {j : Nat} (h : j < c.length) : c[j]? = some (gt c j) := by
  unfold gt
  rw [List.getD_eq_getElem?_getD, List.getElem?_eq_getElem h]; rfl
theorem gt_mem {c : List D} {j : Nat} (h : j < c.length) : gt c j ∈ c := List.mem_of_getElem? (gt_lt h)
theorem gt_get {c : List D} {j : Nat} (h : j < c.length) : gt c j = c[j] := by
  have := gt_lt h
  rw [List.getElem?_eq_getElem h] at this
  exact (Option.some.inj this).symm
theorem ixN_nat {n j : Nat} (h : j < n) : ixN n (j : Int) = some j := by
  unfold ixN
  rw [if_pos (by omega), if_pos (by omega), Int.toNat_natCast]
theorem atI_nat' {c : List D} {j : Nat} (h : j < c.length) : atI c (j : Int) = some (gt c j) := by
  unfold atI
  rw [ixN_nat h]
  exact gt_lt h
theorem ixD_tup {c : List D} {j : Nat} (h : j < c.length) : ixD (.tup c) (.int j) = .ok (gt c j) := by
  show (match atI c (j : Int) with
    | some d => R.ok d
    | none => R.st) = _
  rw [atI_nat' h]
theorem ixD_lst {c : List D} {j : Nat} (h : j < c.length) : ixD (.lst c) (.int j) = .ok (gt c j) := by
  show (match atI c (j : Int) with
    | some d => R.ok d
    | none => R.st) = _
  rw [atI_nat' h]
/-- the last one -/
theorem atI_last {c : List D} (h : c ≠ []) : atI c (-1) = some (gt c (c.length - 1)) := by
  have : 0 < c.length := List.length_pos_iff.mpr h
  unfold atI ixN
  rw [if_neg (by omega), if_pos (by omega)]
  show c[((-1 : Int) + (c.length : Int)).toNat]? = _
  rw [show ((-1 : Int) + (c.length : Int)).toNat = c.length - 1 by omega]
  exact gt_lt (by omega)
theorem ixD_tupL {c : List D} (h : c ≠ []) : ixD (.tup c) (.int (-1)) = .ok (gt c (c.length - 1)) := by
  show (match atI c (-1) with
    | some d => R.ok d
    | none => R.st) = _
  rw [atI_last h]
theorem ixD_lstL {c : List D} (h : c ≠ []) : ixD (.lst c) (.int (-1)) = .ok (gt c (c.length - 1)) := by
  show (match atI c (-1) with
    | some d => R.ok d
    | none => R.st) = _
  rw [atI_last h]
theorem intL0 (n : Nat) : intL 0 n = (List.range n).map fun (j : Nat) => D.int j := by
  unfold intL
  refine List.map_congr_left fun j _ => ?_
  rw [Int.zero_add]
theorem rng0 {n : Nat} (h : n ≤ 1000000) : rngItems (.int 0) (.int n) = .ok ((List.range n).map fun (j : Nat) => D.int j) := by
  have h1 : boundOk 0 = true := by decide
  have h2 : boundOk (n : Int) = true := by unfold boundOk; rw [Bool.and_eq_true, decide_eq_true_eq, decide_eq_true_eq]; omega
  show (if boundOk 0 && boundOk (n : Int) then R.ok (intL 0 ((n : Int) - 0).toNat) else R.st) = _
  rw [h1, h2, if_pos (by rfl), Int.sub_zero, Int.toNat_natCast, intL0]
theorem pairs_int (c : List D) : pairs (intL 0 c.length) c = (List.range c.length).map fun (j : Nat) => D.tup [.int j, gt c j] := by
  unfold pairs
  rw [intL0]
  refine List.ext_getElem? fun i => ?_
  rw [List.getElem?_map, List.getElem?_map]
  by_cases h : i < c.length
  · rw [List.getElem?_range h]
    have e : (((List.range c.length).map fun (j : Nat) => D.int j).zip c)[i]? = some (D.int i, gt c i) := by
      rw [List.getElem?_zip_eq_some]
      exact ⟨by rw [List.getElem?_map, List.getElem?_range h]; rfl, gt_lt h⟩
    rw [e]; rfl
  · rw [List.getElem?_eq_none (by rw [List.length_zip, List.length_map, List.length_range]; omega), List.getElem?_eq_none (by rw [List.length_range]; omega)]
    rfl
theorem enumT {c : List D} : enumD (.tup c) = .ok ((List.range c.length).map fun (j : Nat) => D.tup [.int j, gt c j]) := by
  show R.ok (pairs (intL 0 c.length) c) = _
  rw [pairs_int]
theorem enumL {c : List D} : enumD (.lst c) = .ok ((List.range c.length).map fun (j : Nat) => D.tup [.int j, gt c j]) := by
  show R.ok (pairs (intL 0 c.length) c) = _
  rw [pairs_int]
/-! ### things -/
def Th : Nat → D → Prop
  | _, .non => True
  | _, .bl _ => True
  | _, .int _ => True
  | _, .str s => PyData.strOk s = true ∧ s.length ≤ LIM
  | n + 1, .tup xs => xs.length < 64 ∧ ∀ x ∈ xs, Th n x
  | n + 1, .lst xs => xs.length < 64 ∧ ∀ x ∈ xs, Th n x
  | _, _ => False
theorem Th.up : ∀ {n : Nat} {d : D}, Th n d → Th (n + 1) d
  | 0, .non, h => h
  | 0, .bl _, h => h
  | 0, .int _, h => h
  | 0, .str _, h => h
  | 0, .tup _, h => h.elim
  | 0, .lst _, h => h.elim
  | 0, .rng _ _, h => h.elim
  | 0, .fz _, h => h.elim
  | 0, .dc _ _, h => h.elim
  | 0, .er _ _ _, h => h.elim
  | n + 1, .non, h => h
  | n + 1, .bl _, h => h
  | n + 1, .int _, h => h
  | n + 1, .str _, h => h
  | n + 1, .tup xs, h => ⟨h.1, fun x hx => Th.up (h.2 x hx)⟩
  | n + 1, .lst xs, h => ⟨h.1, fun x hx => Th.up (h.2 x hx)⟩
  | n + 1, .rng _ _, h => h.elim
  | n + 1, .fz _, h => h.elim
  | n + 1, .dc _ _, h => h.elim
  | n + 1, .er _ _ _, h => h.elim
theorem Th.le {n m : Nat} {d : D} (h : Th n d) (l : n ≤ m) : Th m d := by
  induction l with
  | refl => exact h
  | step _ ih => exact ih.up
theorem Th.ty {n : Nat} {d : D} (h : Th n d) : noneOrTy d = true := by
  cases d <;> first | rfl | (cases n <;> exact h.elim)
theorem Th.int {n : Nat} {i : Int} : Th n (.int i) := by cases n <;> exact trivial
theorem Th.non {n : Nat} : Th n .non := by cases n <;> exact trivial
theorem Th.bl {n : Nat} {b : Bool} : Th n (.bl b) := by cases n <;> exact trivial
theorem th_gt {n : Nat} {xs : List D} (h : ∀ x ∈ xs, Th n x) (j : Nat) : Th n (gt xs j) := by
  by_cases l : j < xs.length
  · exact h _ (gt_mem l)
  · have : gt xs j = .non := by unfold Py.gt; rw [List.getD_eq_getElem?_getD, List.getElem?_eq_none (by omega)]; rfl
    rw [this]; exact Th.non
mutual
def pyOf : D → PyData
  | .non => .none
  | .bl b => .bool b
  | .int i => .int i
  | .str s => .str s
  | .tup xs => .tuple (pysOf xs)
  | .lst xs => .list (pysOf xs)
  | .rng _ _ => .none
  | .fz _ => .none
  | .dc _ _ => .none
  | .er _ _ _ => .none
def pysOf : List D → List PyData
  | [] => []
  | x :: xs => pyOf x :: pysOf xs
end
mutual
theorem toPy_th : ∀ {n : Nat} (d : D), Th n d → toPy d = some (pyOf d) ∧ (pyOf d).canLay0 = true ∧ (pyOf d).depth ≤ n
  | n, .non, h => ⟨by simp [toPy, pyOf], by simp [pyOf, PyData.canLay0], by simp [pyOf, PyData.depth]⟩
  | n, .bl b, h => ⟨by simp [toPy, pyOf], by simp [pyOf, PyData.canLay0], by simp [pyOf, PyData.depth]⟩
  | n, .int i, h => ⟨by simp [toPy, pyOf], by simp [pyOf, PyData.canLay0], by simp [pyOf, PyData.depth]⟩
  | n, .str s, h => by
    have h : PyData.strOk s = true := by cases n <;> exact h.1
    exact ⟨by simp [toPy, pyOf], by simp [pyOf, PyData.canLay0, h], by simp [pyOf, PyData.depth]⟩
  | 0, .tup xs, h => h.elim
  | n + 1, .tup xs, h => by
    obtain ⟨h1, h2, h3⟩ := toPys_th xs h.2
    exact ⟨by simp [toPy, pyOf, h1], by simpa [pyOf, PyData.canLay0] using h2, by simp only [pyOf, PyData.depth]; omega⟩
  | 0, .lst xs, h => h.elim
  | n + 1, .lst xs, h => by
    obtain ⟨h1, h2, h3⟩ := toPys_th xs h.2
    exact ⟨by simp [toPy, pyOf, h1], by simpa [pyOf, PyData.canLay0] using h2, by simp only [pyOf, PyData.depth]; omega⟩
  | n, .rng _ _, h => by cases n <;> exact h.elim
  | n, .fz _, h => by cases n <;> exact h.elim
  | n, .dc _ _, h => by cases n <;> exact h.elim
  | n, .er _ _ _, h => by cases n <;> exact h.elim
theorem toPys_th : ∀ {n : Nat} (xs : List D), (∀ x ∈ xs, Th n x) → toPys xs = some (pysOf xs) ∧ PyData.canLayAll0 (pysOf xs) = true ∧ PyData.depthAll (pysOf xs) ≤ n
  | n, [], h => ⟨by simp [toPys, pysOf], by simp [pysOf, PyData.canLayAll0], by simp [pysOf, PyData.depthAll]⟩
  | n, x :: xs, h => by
    obtain ⟨h1, h2, h3⟩ := toPy_th x (h x (List.mem_cons_self ..))
    obtain ⟨k1, k2, k3⟩ := toPys_th xs (fun y hy => h y (List.mem_cons_of_mem _ hy))
    exact ⟨by simp [toPys, pysOf, h1, k1], by simp [pysOf, PyData.canLayAll0, h2, k2], by simp only [pysOf, PyData.depthAll]; omega⟩
end
theorem pysOf_map (xs : List D) : pysOf xs = xs.map pyOf := by
  induction xs with
  | nil => rfl
  | cons x xs ih => simp [pysOf, ih]
theorem shaped_th {n : Nat} {d : D} (h : Th n d) (l : n ≤ 64) : SeqAt.shaped (pyOf d) = true := by
  obtain ⟨_, h2, h3⟩ := toPy_th d h
  unfold SeqAt.shaped
  rw [h2, Bool.true_and, decide_eq_true_eq]; omega
theorem deq_th {n m : Nat} {a b : D} (ha : Th n a) (hb : Th m b) (l : n ≤ 64) (k : m ≤ 64) : deq a b = .ok (PyData.eqv (pyOf a) (pyOf b)) := by
  unfold deq
  rw [(toPy_th a ha).1, (toPy_th b hb).1]
  show (if SeqAt.shaped (pyOf a) && SeqAt.shaped (pyOf b) then _ else _) = _
  rw [shaped_th ha l, shaped_th hb k]; rfl
theorem isIn_tup {n m : Nat} {x : D} {xs : List D} (hx : Th n x) (hc : Th m (.tup xs)) (l : n ≤ 64) (k : m ≤ 64) : isIn x (.tup xs) = .ok (xs.any fun z => PyData.eqv (pyOf z) (pyOf x)) := by
  have e := (toPy_th _ hc).1
  have s := shaped_th hc k
  simp only [pyOf] at e s
  show isIn0 x (.tup xs) = _
  unfold isIn0
  rw [(toPy_th x hx).1, e]
  show (if SeqAt.shaped (pyOf x) && SeqAt.shaped (.tuple (pysOf xs)) then R.ok ((pysOf xs).any fun z => PyData.eqv z (pyOf x)) else _) = _
  rw [shaped_th hx l, s, if_pos (by rfl), pysOf_map, List.any_map]; rfl
/-! ### numbers -/
def isNum : D → Bool
  | .int _ => true
  | _ => false
def isTup : D → Bool
  | .tup _ => true
  | _ => false
def isLstD : D → Bool
  | .lst _ => true
  | _ => false
def nums (is : List Int) : List D := is.map .int
def toI : D → Int
  | .int i => i
  | _ => 0
theorem ints_ofQ {xs : List D} (h : xs.all isNum = true) : xs = nums (xs.map toI) := by
  induction xs with
  | nil => rfl
  | cons x xs ih =>
    rw [List.all_cons, Bool.and_eq_true] at h
    cases x <;> first | (cases h.1; done) | skip
    show _ = D.int _ :: nums (xs.map toI)
    rw [← ih h.2]; rfl
theorem ints_num (is : List Int) : (nums is).all isNum = true := by
  unfold nums
  rw [List.all_map]
  exact List.all_eq_true.mpr fun _ _ => rfl
theorem ints_th {n : Nat} {is : List Int} (h : is.length < 64) : Th (n + 1) (.tup (nums is)) := ⟨by unfold nums; rw [List.length_map]; exact h, fun x hx => by
  obtain ⟨i, _, rfl⟩ := List.mem_map.mp hx
  exact Th.int⟩
theorem intsL_th {n : Nat} {is : List Int} (h : is.length < 64) : Th (n + 1) (.lst (nums is)) := ⟨by unfold nums; rw [List.length_map]; exact h, fun x hx => by
  obtain ⟨i, _, rfl⟩ := List.mem_map.mp hx
  exact Th.int⟩
theorem eqvAll_ints : ∀ (a b : List Int), PyData.eqvAll (pysOf (nums a)) (pysOf (nums b)) = (a == b)
  | [], [] => rfl
  | [], _ :: _ => rfl
  | _ :: _, [] => rfl
  | x :: a, y :: b => by
    show PyData.eqvAll (.int x :: pysOf (nums a)) (.int y :: pysOf (nums b)) = _
    simp only [PyData.eqvAll, PyData.eqv, eqvAll_ints a b, List.cons_beq_cons]
theorem intsOf_ints (is : List Int) : intsOf (nums is) = some is := by
  induction is with
  | nil => rfl
  | cons i is ih => show (intsOf (nums is)).map (i :: ·) = _; rw [ih]; rfl
theorem any_int {is : List Int} {k : Int} : ((nums is).any fun z => PyData.eqv (pyOf z) (pyOf (.int k))) = decide (k ∈ is) := by
  unfold nums
  rw [List.any_map]
  rw [Bool.eq_iff_iff, List.any_eq_true, decide_eq_true_eq]
  constructor
  · rintro ⟨x, hx, e⟩
    have e : (x == k) = true := by simpa [pyOf, PyData.eqv] using e
    rw [← beq_iff_eq.mp e]; exact hx
  · intro h
    exact ⟨k, h, by simp [pyOf, PyData.eqv]⟩
theorem blsOf_map {α : Type} (f : α → Bool) (l : List α) : blsOf (l.map fun a => D.bl (f a)) = some (l.map f) := by
  induction l with
  | nil => rfl
  | cons a l ih => show (blsOf (l.map fun a => D.bl (f a))).map (f a :: ·) = _; rw [ih]; rfl
theorem all_map {α : Type} (f : α → Bool) (l : List α) : f1D .all (.lst (l.map fun a => D.bl (f a))) = .ok (.bl (l.all f)) := by
  show (match blsOf (l.map fun a => D.bl (f a)) with
    | some bs => R.ok (D.bl (bs.all id))
    | none => .st) = _
  rw [blsOf_map]
  show R.ok (D.bl ((l.map f).all id)) = _
  rw [List.all_map]; rfl
end Py
namespace Py
open PySem PySem.Spec PyProof.Rows L2
section
variable {cf : CF} {η : Py.Env}
theorem evSrc_vT {i : Nat} {xs : List D} (h : η[i]? = some (some (.tup xs))) : evSrc cf (.v i) η = .ok (xs, .inl (.tup xs), .tup xs, η) := by
  show (opd (.v i) (ev cf (.v i)) η).bind _ = _
  rw [opd_x (fun j z => by cases z)]
  simp only [ev_v, h, ok_bind, rd_inl, noer_ok, items, lock_inl]
theorem evSrc_vL {i : Nat} {xs : List D} (h : η[i]? = some (some (.lst xs))) : evSrc cf (.v i) η = .ok (xs, .inl (.lst xs), .lst xs, η) := by
  show (opd (.v i) (ev cf (.v i)) η).bind _ = _
  rw [opd_x (fun j z => by cases z)]
  simp only [ev_v, h, ok_bind, rd_inl, noer_ok, items, lock_inl]
end
mutual
def fro : D → D
  | .lst xs => .tup (fros xs)
  | .tup xs => .tup (fros xs)
  | d => d
def fros : List D → List D
  | [] => []
  | x :: xs => fro x :: fros xs
end
mutual
def lis : D → D
  | .lst xs => .lst (liss xs)
  | .tup xs => .lst (liss xs)
  | d => d
def liss : List D → List D
  | [] => []
  | x :: xs => lis x :: liss xs
end
theorem fros_map (xs : List D) : fros xs = xs.map fro := by
  induction xs with
  | nil => rfl
  | cons x xs ih => simp [fros, ih]
theorem liss_map (xs : List D) : liss xs = xs.map lis := by
  induction xs with
  | nil => rfl
  | cons x xs ih => simp [liss, ih]
section
variable {cf : CF} {η : Py.Env}
theorem filter_tt {α : Type} (l : List α) : (l.filter fun _ => true) = l := List.filter_eq_self.mpr fun _ _ => rfl
/-- without a test -/
theorem ev_lcm {α : Type} {q src : E} {t : Tg} {z z' : D} (l : List α) (f : α → D) (e : α → Py.Env) (g : α → D) (hs : evSrc cf src η = .ok (l.map f, .inl z, z', η)) (hv : ∀ i ∈ tgSlots t, i < η.length) (hb : ∀ a ∈ l, bindT t (f a) (killE η (tgSlots t)) = .ok (e a)) (hk : ∀ a ∈ l, killE (e a) (tgSlots t) = killE η (tgSlots t))
    (hg : ∀ a ∈ l, ev cf q (e a) = .ok (g a, e a)) (hl : l.length ≤ 1000000) : ev cf (.lc q t src (.k (.bl true))) η = .ok (.lst (l.map g), η) := by
  have := ev_lc (c := .k (.bl true)) l f e (fun _ => true) g hs hv hb hk (fun _ _ => rfl) (fun a ha _ => hg a ha) (by show _ ≤ 16777216; omega)
  rwa [filter_tt] at this
theorem ev_lcf {α : Type} {q c src : E} {t : Tg} {z z' : D} (l : List α) (f : α → D) (e : α → Py.Env) (p : α → Bool) (g : α → D) (hs : evSrc cf src η = .ok (l.map f, .inl z, z', η)) (hv : ∀ i ∈ tgSlots t, i < η.length) (hb : ∀ a ∈ l, bindT t (f a) (killE η (tgSlots t)) = .ok (e a)) (hk : ∀ a ∈ l, killE (e a) (tgSlots t) = killE η (tgSlots t))
    (hc : ∀ a ∈ l, ev cf c (e a) = .ok (.bl (p a), e a)) (hg : ∀ a ∈ l, p a = true → ev cf q (e a) = .ok (g a, e a)) (hl : l.length ≤ 1000000) : ev cf (.lc q t src c) η = .ok (.lst ((l.filter p).map g), η) :=
  ev_lc l f e p g hs hv hb hk hc hg (by show _ ≤ 16777216; omega)
end
end Py
namespace Py
open PySem PySem.Spec PyProof.Rows L2
/-! ### ascending rows -/
def ascI : List Int → Bool
  | x :: y :: r => decide (x < y) && ascI (y :: r)
  | _ => true
theorem ascI_zip : ∀ (is : List Int), ((is.zip is.tail).all fun p => decide (p.1 < p.2)) = ascI is
  | [] => rfl
  | [_] => rfl
  | x :: y :: r => by
    have := ascI_zip (y :: r)
    simp only [List.tail_cons, List.zip_cons_cons, List.all_cons, ascI] at this ⊢
    rw [this]
theorem cut1 (xs : List D) : cutD xs (some 1) none = xs.tail := by
  unfold cutD
  have h1 : HT.sIx xs.length 0 (some 1) = min 1 xs.length := HT.sIx_nat xs.length 0 1
  have h2 : HT.sIx xs.length xs.length none = xs.length := rfl
  rw [h1, h2]
  cases xs with
  | nil => rfl
  | cons x xs =>
    have : min 1 (x :: xs).length = 1 := by rw [List.length_cons]; omega
    rw [this]
    show (xs.take ((x :: xs).length - 1)) = xs
    rw [List.length_cons]
    exact List.take_of_length_le (by omega)
theorem nums_tail (is : List Int) : (nums is).tail = nums is.tail := by cases is <;> rfl
theorem pairs_nums (a b : List Int) : pairs (nums a) (nums b) = (a.zip b).map fun p => D.tup [.int p.1, .int p.2] := by
  unfold pairs nums
  rw [List.zip_map, List.map_map]; rfl
theorem tail_len {α : Type} (l : List α) : (l.zip l.tail).length ≤ l.length := by rw [List.length_zip]; omega
end Py
namespace Py
open PySem PySem.Spec PyProof.Rows L2
/-! ### two clauses -/
theorem killE_append {η : Py.Env} (a b : List Nat) : killE η (a ++ b) = killE (killE η b) a := by
  induction a with
  | nil => rfl
  | cons i is ih => simp [ih]
theorem lc2Go_pure {α β : Type} {T T' : Tg} {us vs : List Nat} {c c' b : Py.Env → R (D × Py.Env)} {src : Py.Env → R (List D × Opd × D × Py.Env)} {η0 : Py.Env} (f : α → D) (e : α → Py.Env) (m : α → List β) (f' : β → D) (e' : α → β → Py.Env) (p' : α → β → Bool) (g : α → β → D) :
    ∀ (l : List α), (∀ a ∈ l, bindT T (f a) (killE η0 (us ++ vs)) = .ok (e a)) → (∀ a ∈ l, killE (e a) (us ++ vs) = killE η0 (us ++ vs)) → (∀ a ∈ l, c (e a) = .ok (.bl true, e a)) → (∀ a ∈ l, ∃ z z', src (e a) = .ok ((m a).map f', .inl z, z', e a)) →
    (∀ a ∈ l, ∀ x ∈ m a, bindT T' (f' x) (killE (e a) vs) = .ok (e' a x)) → (∀ a ∈ l, ∀ x ∈ m a, killE (e' a x) vs = killE (e a) vs) → (∀ a ∈ l, ∀ x ∈ m a, c' (e' a x) = .ok (.bl (p' a x), e' a x)) → (∀ a ∈ l, ∀ x ∈ m a, p' a x = true → b (e' a x) = .ok (g a x, e' a x)) →
    ∀ η, killE η (us ++ vs) = killE η0 (us ++ vs) → ∃ η', lc2Go T (us ++ vs) c T' vs src c' b (l.map f) η = .ok (l.flatMap fun a => ((m a).filter (p' a)).map (g a), η') ∧ killE η' (us ++ vs) = killE η0 (us ++ vs)
  | [], _, _, _, _, _, _, _, _, η, h => ⟨η, rfl, h⟩
  | a :: l, hb, hk, hc, hs, hb', hk', hc', hg, η, h => by
    have ma : a ∈ a :: l := List.mem_cons_self ..
    obtain ⟨z, z', es⟩ := hs a ma
    obtain ⟨η1, e1, k1⟩ := lcGo_pure (T := T') (vs := vs) (c := c') (b := b) (η0 := e a) f' (e' a) (p' a) (g a) (m a) (hb' a ma) (hk' a ma) (hc' a ma) (hg a ma) (e a) rfl
    have k2 : killE η1 (us ++ vs) = killE η0 (us ++ vs) := by rw [killE_append, k1, ← killE_append, hk a ma]
    obtain ⟨η', e2, k3⟩ := lc2Go_pure (c := c) (c' := c') (b := b) (src := src) (us := us) f e m f' e' p' g l (fun x hx => hb x (List.mem_cons_of_mem _ hx)) (fun x hx => hk x (List.mem_cons_of_mem _ hx)) (fun x hx => hc x (List.mem_cons_of_mem _ hx)) (fun x hx => hs x (List.mem_cons_of_mem _ hx)) (fun x hx => hb' x (List.mem_cons_of_mem _ hx)) (fun x hx => hk' x (List.mem_cons_of_mem _ hx)) (fun x hx => hc' x (List.mem_cons_of_mem _ hx)) (fun x hx => hg x (List.mem_cons_of_mem _ hx)) η1 k2
    refine ⟨η', ?_, k3⟩
    show (noer (bindT T (f a) (killE η (us ++ vs)))).bind _ = _
    rw [h, hb a ma]
    show (c (e a)).bind _ = _
    rw [hc a ma]
    show (src (e a)).bind _ = _
    rw [es]
    show (lcGo T' vs c' b ((m a).map f') (e a)).bind _ = _
    rw [e1]
    show (lc2Go T (us ++ vs) c T' vs src c' b (l.map f) η1).bind _ = _
    rw [e2]; rfl
theorem ev_lc2 {cf : CF} {η : Py.Env} {α β : Type} {q src src' c' : E} {t t' : Tg} {z z' : D} (l : List α) (f : α → D) (e : α → Py.Env) (m : α → List β) (f' : β → D) (e' : α → β → Py.Env) (p' : α → β → Bool) (g : α → β → D) (hs : evSrc cf src η = .ok (l.map f, .inl z, z', η)) (hv : ∀ i ∈ tgSlots t ++ tgSlots t', i < η.length)
    (hb : ∀ a ∈ l, bindT t (f a) (killE η (tgSlots t ++ tgSlots t')) = .ok (e a)) (hk : ∀ a ∈ l, killE (e a) (tgSlots t ++ tgSlots t') = killE η (tgSlots t ++ tgSlots t')) (hs' : ∀ a ∈ l, ∃ z z', evSrc cf src' (e a) = .ok ((m a).map f', .inl z, z', e a))
    (hb' : ∀ a ∈ l, ∀ x ∈ m a, bindT t' (f' x) (killE (e a) (tgSlots t')) = .ok (e' a x)) (hk' : ∀ a ∈ l, ∀ x ∈ m a, killE (e' a x) (tgSlots t') = killE (e a) (tgSlots t')) (hc' : ∀ a ∈ l, ∀ x ∈ m a, ev cf c' (e' a x) = .ok (.bl (p' a x), e' a x)) (hg : ∀ a ∈ l, ∀ x ∈ m a, p' a x = true → ev cf q (e' a x) = .ok (g a x, e' a x))
    (hl : (l.flatMap fun a => ((m a).filter (p' a)).map (g a)).length ≤ 1000000) : ev cf (.lc2 q t src (.k (.bl true)) t' src' c') η = .ok (.lst (l.flatMap fun a => ((m a).filter (p' a)).map (g a)), η) := by
  show (evSrc cf src η).bind _ = _
  rw [hs]
  obtain ⟨η', e1, e2⟩ := lc2Go_pure (T := t) (T' := t') (us := tgSlots t) (vs := tgSlots t') (c := ev cf (.k (.bl true))) (c' := ev cf c') (b := ev cf q) (src := evSrc cf src') (η0 := η) f e m f' e' p' g l hb hk (fun _ _ => rfl) hs' hb' hk' hc' hg η rfl
  show (noer (lc2Go t (tgSlots t ++ tgSlots t') (ev cf (.k (.bl true))) t' (tgSlots t') (evSrc cf src') (ev cf c') (ev cf q) (l.map f) η)).bind _ = _
  rw [e1, noer_ok, ok_bind]
  show (Py.R.ok (backE η' η (tgSlots t ++ tgSlots t'))).bind _ = _
  rw [backE_eq e2 hv]
  show (if (l.flatMap fun a => ((m a).filter (p' a)).map (g a)).length ≤ LIM then _ else _) = _
  rw [if_pos (by show _ ≤ 16777216; omega)]
/-! ### loops that search -/
theorem forGo_all {α : Type} {T : Tg} {b : Py.Env → R Fl} {r : D} (f : α → D) (I : Py.Env → Prop) (ok : α → Bool) : ∀ (l : List α), (∀ a ∈ l, ∀ η, I η → ∃ η1, bindT T (f a) η = .ok η1 ∧ (ok a = true → ∃ η2, b η1 = .ok (.nx η2) ∧ I η2) ∧ (ok a = false → ∃ η2, b η1 = .ok (.rt r η2))) →
    ∀ η, I η → (l.all ok = true → ∃ η', forGo T b (l.map f) η = .ok (.nx η') ∧ I η') ∧ (l.all ok = false → ∃ η', forGo T b (l.map f) η = .ok (.rt r η'))
  | [], _, η, h => ⟨fun _ => ⟨η, rfl, h⟩, fun z => by cases z⟩
  | a :: l, hb, η, h => by
    obtain ⟨η1, e1, h1, h2⟩ := hb a (List.mem_cons_self ..) η h
    have ih := forGo_all (b := b) (r := r) f I ok l fun x hx => hb x (List.mem_cons_of_mem _ hx)
    have go : forGo T b ((a :: l).map f) η = (b η1).bind fun f' => loopK (forGo T b (l.map f)) f' := by
      show (noer (bindT T (f a) η)).bind _ = _
      rw [e1]; rfl
    rw [go, List.all_cons]
    cases ho : ok a with
    | true =>
      obtain ⟨η2, e2, i2⟩ := h1 ho
      rw [e2, Bool.true_and]
      exact ih η2 i2
    | false =>
      obtain ⟨η2, e2⟩ := h2 ho
      rw [e2, Bool.false_and]
      exact ⟨fun z => Bool.noConfusion z, fun _ => ⟨η2, rfl⟩⟩
/-- a loop that folds -/
theorem forGo_fold {α β : Type} {T : Tg} {b : Py.Env → R Fl} (f : α → D) (I : β → Py.Env → Prop) (step : α → β → β) : ∀ (l : List α), (∀ a ∈ l, ∀ x η, I x η → ∃ η1 η2, bindT T (f a) η = .ok η1 ∧ b η1 = .ok (.nx η2) ∧ I (step a x) η2) →
    ∀ x η, I x η → ∃ η', forGo T b (l.map f) η = .ok (.nx η') ∧ I (l.foldl (fun x a => step a x) x) η'
  | [], _, x, η, h => ⟨η, rfl, h⟩
  | a :: l, hb, x, η, h => by
    obtain ⟨η1, η2, e1, e2, i2⟩ := hb a (List.mem_cons_self ..) x η h
    obtain ⟨η', e3, i3⟩ := forGo_fold (b := b) f I step l (fun y hy => hb y (List.mem_cons_of_mem _ hy)) (step a x) η2 i2
    refine ⟨η', ?_, i3⟩
    show (noer (bindT T (f a) η)).bind _ = _
    rw [e1]
    show (b η1).bind _ = _
    rw [e2]; exact e3
/-- one whose state is told by turns -/
theorem forGo_turns {α : Type} {T : Tg} {b : Py.Env → R Fl} (f : α → D) (I : Nat → Py.Env → Prop) : ∀ (l : List α) (k : Nat), (∀ i a, l[i]? = some a → ∀ η, I (k + i) η → ∃ η1 η2, bindT T (f a) η = .ok η1 ∧ b η1 = .ok (.nx η2) ∧ I (k + i + 1) η2) →
    ∀ η, I k η → ∃ η', forGo T b (l.map f) η = .ok (.nx η') ∧ I (k + l.length) η'
  | [], k, _, η, h => ⟨η, rfl, h⟩
  | a :: l, k, hb, η, h => by
    obtain ⟨η1, η2, e1, e2, i2⟩ := hb 0 a rfl η h
    obtain ⟨η', e3, i3⟩ := forGo_turns (b := b) f I l (k + 1) (fun i x hx η hη => by
      obtain ⟨η1, η2, h1, h2, h3⟩ := hb (i + 1) x (by simpa using hx) η (by rw [show k + (i + 1) = k + 1 + i by omega]; exact hη)
      exact ⟨η1, η2, h1, h2, by rw [show k + 1 + i + 1 = k + (i + 1) + 1 by omega]; exact h3⟩) η2 i2
    refine ⟨η', ?_, by rw [List.length_cons, show k + (l.length + 1) = k + 1 + l.length by omega]; exact i3⟩
    show (noer (bindT T (f a) η)).bind _ = _
    rw [e1]
    show (b η1).bind _ = _
    rw [e2]; exact e3
end Py
namespace Py
open PySem PySem.Spec PyProof.Rows L2
theorem flatMap_eq {α β : Type} {f g : α → List β} : ∀ {l : List α}, (∀ a ∈ l, f a = g a) → l.flatMap f = l.flatMap g
  | [], _ => rfl
  | a :: l, h => by rw [List.flatMap_cons, List.flatMap_cons, h a (List.mem_cons_self ..), flatMap_eq fun x hx => h x (List.mem_cons_of_mem _ hx)]
@[simp] theorem deq_int {a b : Int} : deq (.int a) (.int b) = .ok (a == b) := by
  rw [deq_th (n := 0) (m := 0) Th.int Th.int (by omega) (by omega)]
  simp [pyOf, PyData.eqv]
@[simp] theorem deq_bl {a b : Bool} : deq (.bl a) (.bl b) = .ok (a == b) := by
  rw [deq_th (n := 0) (m := 0) Th.bl Th.bl (by omega) (by omega)]
  simp [pyOf, PyData.eqv]
theorem ixD_tup0 {xs : List D} (h : xs ≠ []) : ixD (.tup xs) (.int 0) = .ok (gt xs 0) := ixD_tup (j := 0) (List.length_pos_iff.mpr h)
theorem ixD_lst0 {xs : List D} (h : xs ≠ []) : ixD (.lst xs) (.int 0) = .ok (gt xs 0) := ixD_lst (j := 0) (List.length_pos_iff.mpr h)
theorem gt_nums {is : List Int} {j : Nat} (h : j < is.length) : gt (nums is) j = .int (is.getD j 0) := by
  have e : (nums is)[j]? = some (.int (is.getD j 0)) := by
    unfold nums
    rw [List.getElem?_map, List.getD_eq_getElem?_getD, List.getElem?_eq_getElem h]; rfl
  have l : j < (nums is).length := by unfold nums; rw [List.length_map]; exact h
  rw [gt_lt l] at e
  exact Option.some.inj e
theorem nums_len (is : List Int) : (nums is).length = is.length := by unfold nums; rw [List.length_map]
theorem nums_ne {is : List Int} (h : is ≠ []) : nums is ≠ [] := by unfold nums; simpa using h
theorem nums_map (is : List Int) : (nums is).map toI = is := by
  unfold nums
  rw [List.map_map]
  exact List.map_id' is
/-! ### sorted(set(..)) -/
def leI : List Int → Bool
  | x :: y :: r => decide (x ≤ y) && leI (y :: r)
  | _ => true
theorem ins_le (x : Int) : ∀ (l : List Int), leI l = true → leI (isort.ins x l) = true ∧ ∀ a, leI (a :: l) = true → a ≤ x → leI (a :: isort.ins x l) = true
  | [], _ => ⟨rfl, fun a _ h => by simp [isort.ins, leI, h]⟩
  | y :: ys, h => by
    have hy : leI ys = true := by
      cases ys with
      | nil => rfl
      | cons z zs => simp only [leI, Bool.and_eq_true] at h; exact h.2
    obtain ⟨h1, h2⟩ := ins_le x ys hy
    unfold isort.ins
    by_cases c : x ≤ y
    · rw [if_pos c]
      exact ⟨by simp [leI, c, h], fun a ha hx => by simp [leI, c, h, hx]⟩
    · rw [if_neg c]
      have k : leI (y :: isort.ins x ys) = true := h2 y h (by omega)
      refine ⟨k, fun a ha hx => ?_⟩
      simp only [leI, Bool.and_eq_true] at ha ⊢
      exact ⟨ha.1, k⟩
theorem isort_le (l : List Int) : leI (isort l) = true := by
  induction l with
  | nil => rfl
  | cons x xs ih => exact (ins_le x _ ih).1
theorem uniq_head (x : Int) (xs : List Int) : ∃ r, uniq (x :: xs) = x :: r := by
  induction xs generalizing x with
  | nil => exact ⟨[], rfl⟩
  | cons y ys ih =>
    by_cases c : x = y
    · subst c
      obtain ⟨r, e⟩ := ih x
      exact ⟨r, by rw [uniq, if_pos rfl]; exact e⟩
    · exact ⟨uniq (y :: ys), by rw [uniq, if_neg c]⟩
theorem uniq_asc : ∀ (l : List Int), leI l = true → ascI (uniq l) = true
  | [], _ => rfl
  | [_], _ => rfl
  | x :: y :: r, h => by
    simp only [leI, Bool.and_eq_true, decide_eq_true_eq] at h
    have ih := uniq_asc (y :: r) h.2
    by_cases c : x = y
    · rw [uniq, if_pos c]; exact ih
    · rw [uniq, if_neg c]
      obtain ⟨s, e⟩ := uniq_head y r
      rw [e] at ih ⊢
      simp only [ascI, Bool.and_eq_true, decide_eq_true_eq]
      exact ⟨by omega, ih⟩
theorem asc_tail {x : Int} {l : List Int} (h : ascI (x :: l) = true) : ascI l = true := by
  cases l with
  | nil => rfl
  | cons y r => simp only [ascI, Bool.and_eq_true] at h; exact h.2
theorem isort_asc : ∀ (l : List Int), ascI l = true → isort l = l
  | [], _ => rfl
  | x :: l, h => by
    show isort.ins x (isort l) = _
    rw [isort_asc l (asc_tail h)]
    cases l with
    | nil => rfl
    | cons y r =>
      simp only [ascI, Bool.and_eq_true, decide_eq_true_eq] at h
      unfold isort.ins
      rw [if_pos (by omega)]
theorem uniq_id : ∀ (l : List Int), ascI l = true → uniq l = l
  | [], _ => rfl
  | [_], _ => rfl
  | x :: y :: r, h => by
    have h' := h
    simp only [ascI, Bool.and_eq_true, decide_eq_true_eq] at h
    rw [uniq, if_neg (by omega), uniq_id (y :: r) h.2]
theorem sset_asc (is : List Int) : (uniq (isort is) == is) = ascI is := by
  rw [Bool.eq_iff_iff, beq_iff_eq]
  constructor
  · intro h
    rw [← h]; exact uniq_asc _ (isort_le is)
  · intro h
    rw [isort_asc _ h, uniq_id _ h]
/-- how many unlike ones there are -/
theorem ins_mem (x a : Int) (l : List Int) : a ∈ isort.ins x l ↔ a = x ∨ a ∈ l := by
  induction l with
  | nil => simp [isort.ins]
  | cons y ys ih =>
    unfold isort.ins
    split
    · simp
    · simp only [List.mem_cons, ih]
      constructor
      · rintro (h | h | h) <;> simp [h]
      · rintro (h | h | h) <;> simp [h]
theorem isort_mem (a : Int) (l : List Int) : a ∈ isort l ↔ a ∈ l := by
  induction l with
  | nil => exact Iff.rfl
  | cons x xs ih =>
    show a ∈ isort.ins x (isort xs) ↔ _
    rw [ins_mem, ih, List.mem_cons]
theorem ins_len (x : Int) (l : List Int) : (isort.ins x l).length = l.length + 1 := by
  induction l with
  | nil => rfl
  | cons y ys ih =>
    unfold isort.ins
    split
    · rfl
    · rw [List.length_cons, ih, List.length_cons]
theorem isort_len (l : List Int) : (isort l).length = l.length := by
  induction l with
  | nil => rfl
  | cons x xs ih => show (isort.ins x (isort xs)).length = _; rw [ins_len, ih, List.length_cons]
theorem uniq_memQ (a : Int) : ∀ (l : List Int), a ∈ uniq l ↔ a ∈ l
  | [] => Iff.rfl
  | [_] => Iff.rfl
  | x :: y :: r => by
    have ih := uniq_memQ a (y :: r)
    by_cases c : x = y
    · rw [uniq, if_pos c, ih, c]; simp
    · rw [uniq, if_neg c, List.mem_cons, ih, List.mem_cons, List.mem_cons, List.mem_cons]
theorem uniq_len (l : List Int) : (uniq l).length ≤ l.length := by
  match l with
  | [] => exact Nat.le_refl _
  | [_] => exact Nat.le_refl _
  | x :: y :: r =>
    have ih := uniq_len (y :: r)
    by_cases c : x = y
    · rw [uniq, if_pos c, List.length_cons]; omega
    · rw [uniq, if_neg c, List.length_cons, List.length_cons]; omega
theorem asc_nodup : ∀ (l : List Int), ascI l = true → l.Nodup ∧ ∀ x ∈ l, ∀ y, l.head? = some y → y ≤ x
  | [], _ => ⟨.nil, fun x hx => nomatch hx⟩
  | x :: l, h => by
    obtain ⟨h1, h2⟩ := asc_nodup l (asc_tail h)
    have lo : ∀ z ∈ l, x < z := fun z hz => by
      cases l with
      | nil => cases hz
      | cons y r =>
        simp only [ascI, Bool.and_eq_true, decide_eq_true_eq] at h
        have := h2 z hz y rfl
        omega
    refine ⟨List.nodup_cons.mpr ⟨fun z => by have := lo x z; omega, h1⟩, fun z hz y hy => ?_⟩
    have hy : x = y := Option.some.inj hy
    subst hy
    rcases List.mem_cons.mp hz with rfl | hz
    · exact Int.le_refl _
    · have := lo z hz; omega
theorem sub_len : ∀ (l m : List Int), l.Nodup → (∀ x ∈ l, x ∈ m) → l.length ≤ m.length
  | [], m, _, _ => Nat.zero_le _
  | x :: l, m, hn, h => by
    obtain ⟨h1, h2⟩ := List.nodup_cons.mp hn
    have hx := h x (List.mem_cons_self ..)
    have := sub_len l (m.erase x) h2 fun y hy => by
      have ne : y ≠ x := fun z => h1 (z ▸ hy)
      exact (List.mem_erase_of_ne ne).mpr (h y (List.mem_cons_of_mem _ hy))
    rw [List.length_erase_of_mem hx] at this
    have : 0 < m.length := List.length_pos_of_mem hx
    rw [List.length_cons]; omega
/-- len(set(..)) tells whether none stands twice -/
theorem lset_nodup (is : List Int) : (uniq (isort is)).length < is.length ↔ ¬ is.Nodup := by
  have hn := (asc_nodup _ (uniq_asc _ (isort_le is))).1
  have le := uniq_len (isort is)
  rw [isort_len] at le
  constructor
  · intro h hd
    have := sub_len is (uniq (isort is)) hd fun x hx => by rw [uniq_memQ, isort_mem]; exact hx
    omega
  · intro h
    refine Nat.lt_of_le_of_ne le fun e => h ?_
    -- a duplicate could be left out
    suffices H : ∀ (l m : List Int), m.Nodup → (∀ x ∈ m, x ∈ l) → m.length = l.length → l.Nodup from H is _ hn (fun x hx => by rw [uniq_memQ, isort_mem] at hx; exact hx) e
    intro l
    induction l with
    | nil => intro m _ _ _; exact .nil
    | cons x l ih =>
      intro m h1 h2 h3
      by_cases hx : x ∈ l
      · have := sub_len m l h1 fun y hy => by
          rcases List.mem_cons.mp (h2 y hy) with rfl | z
          · exact hx
          · exact z
        rw [List.length_cons] at h3; omega
      · refine List.nodup_cons.mpr ⟨hx, ?_⟩
        have hm : x ∈ m := by
          by_cases z : x ∈ m
          · exact z
          · have := sub_len m l h1 fun y hy => (List.mem_cons.mp (h2 y hy)).resolve_left fun e => z (e ▸ hy)
            rw [List.length_cons] at h3; omega
        refine ih (m.erase x) (h1.erase x) (fun y hy => ?_) ?_
        · have := (List.Nodup.mem_erase_iff h1).mp hy
          exact (List.mem_cons.mp (h2 y this.2)).resolve_left this.1
        · rw [List.length_erase_of_mem hm, h3, List.length_cons]; omega
end Py
namespace Py
open PySem PySem.Spec PyProof.Rows L2
theorem f1_lsetQ {is : List Int} (h : is.length < 64) : f1D .lset (.tup (nums is)) = .ok (.int (uniq (isort is)).length) := by
  show (match intsOf (nums is) with
    | some ns => if ns.length < 64 then R.ok (D.int (uniq (isort ns)).length) else .st
    | none => .st) = _
  rw [show intsOf (nums is) = some is from intsOf_ints is]
  show (if is.length < 64 then _ else _) = _
  rw [if_pos h]
theorem f1_ssetQ {is : List Int} (h : is.length < 64) : f1D .sset (.tup (nums is)) = .ok (.lst (nums (uniq (isort is)))) := by
  show (match intsOf (nums is) with
    | some ns => if ns.length < 64 then R.ok (D.lst ((uniq (isort ns)).map .int)) else .st
    | none => .st) = _
  rw [show intsOf (nums is) = some is from intsOf_ints is]
  show (if is.length < 64 then _ else _) = _
  rw [if_pos h]; rfl
theorem deq_numsL {a b : List Int} (ha : a.length < 64) (hb : b.length < 64) : deq (.lst (nums a)) (.lst (nums b)) = .ok (a == b) := by
  rw [deq_th (n := 1) (m := 1) (intsL_th ha) (intsL_th hb) (by omega) (by omega)]
  simp only [pyOf, PyData.eqv]
  rw [show PyData.eqvAll (pysOf (nums a)) (pysOf (nums b)) = _ from eqvAll_ints a b]
theorem eqvAll_nil (xs : List D) : PyData.eqvAll (pysOf xs) [] = xs.isEmpty := by cases xs <;> rfl
theorem deq_tnil {m : Nat} {xs : List D} (h : Th m (.tup xs)) (hm : m ≤ 64) : deq (.tup xs) (.tup []) = .ok xs.isEmpty := by
  have z : Th 1 (.tup []) := ⟨by simp, fun x hx => nomatch hx⟩
  rw [deq_th (n := m) (m := 1) h z hm (by omega)]
  simp only [pyOf, PyData.eqv]
  rw [show pysOf ([] : List D) = [] from rfl, eqvAll_nil]
theorem deq_lnil {m : Nat} {xs : List D} (h : Th m (.lst xs)) (hm : m ≤ 64) : deq (.lst xs) (.lst []) = .ok xs.isEmpty := by
  have z : Th 1 (.lst []) := ⟨by simp, fun x hx => nomatch hx⟩
  rw [deq_th (n := m) (m := 1) h z hm (by omega)]
  simp only [pyOf, PyData.eqv]
  rw [show pysOf ([] : List D) = [] from rfl, eqvAll_nil]
theorem cut_from (xs : List D) (k : Nat) : cutD xs (some (k : Int)) none = xs.drop k := by
  unfold cutD
  have h1 : HT.sIx xs.length 0 (some (k : Int)) = min k xs.length := HT.sIx_nat xs.length 0 k
  have h2 : HT.sIx xs.length xs.length none = xs.length := rfl
  rw [h1, h2]
  by_cases c : k ≤ xs.length
  · rw [Nat.min_eq_left c]
    exact List.take_of_length_le (by rw [List.length_drop]; exact Nat.le_refl _)
  · rw [Nat.min_eq_right (by omega), List.drop_length, List.drop_eq_nil_of_le (by omega)]
    simp
theorem cut_to (xs : List D) (k : Nat) : cutD xs none (some (k : Int)) = xs.take k := by
  unfold cutD
  have h1 : HT.sIx xs.length 0 none = 0 := rfl
  have h2 : HT.sIx xs.length xs.length (some (k : Int)) = min k xs.length := HT.sIx_nat xs.length xs.length k
  rw [h1, h2, List.drop_zero, Nat.sub_zero]
  by_cases c : k ≤ xs.length
  · rw [Nat.min_eq_left c]
  · rw [Nat.min_eq_right (by omega), List.take_length, List.take_of_length_le (by omega)]
theorem nums_drop (is : List Int) (k : Nat) : (nums is).drop k = nums (is.drop k) := by unfold nums; rw [List.map_drop]
theorem nums_take (is : List Int) (k : Nat) : (nums is).take k = nums (is.take k) := by unfold nums; rw [List.map_take]
end Py
namespace Py
open PySem PySem.Spec PyProof.Rows L2
theorem all_and {α : Type} (f g : α → Bool) (l : List α) : (l.all fun a => f a && g a) = (l.all f && l.all g) := by
  induction l with
  | nil => rfl
  | cons a l ih =>
    rw [List.all_cons, List.all_cons, List.all_cons, ih]
    cases f a <;> cases g a <;> cases l.all f <;> cases l.all g <;> rfl
theorem range_all_succ (f : Nat → Bool) (n : Nat) : (List.range (n + 1)).all f = (f 0 && (List.range n).all fun j => f (j + 1)) := by
  rw [List.range_succ_eq_map, List.all_cons, List.all_map]; rfl
theorem way_nodup : ∀ (is : List Int), ((List.range (is.length - 1)).all fun j => !decide (is.getD j 0 ∈ is.drop (j + 1))) = decide is.Nodup
  | [] => by simp
  | [x] => by simp
  | x :: y :: r => by
    have ih := way_nodup (y :: r)
    rw [show (x :: y :: r).length - 1 = r.length + 1 by simp, range_all_succ]
    rw [show (y :: r).length - 1 = r.length by simp] at ih
    have e : (fun j => !decide ((x :: y :: r).getD (j + 1) 0 ∈ (x :: y :: r).drop (j + 1 + 1))) = fun j => !decide ((y :: r).getD j 0 ∈ (y :: r).drop (j + 1)) := by
      funext j; rfl
    rw [e, ih]
    show (!decide (x ∈ y :: r) && decide (y :: r).Nodup) = _
    by_cases c : x ∈ y :: r
    · have : ¬ (x :: y :: r).Nodup := fun h => (List.nodup_cons.mp h).1 c
      simp only [c, this, decide_true, decide_false, Bool.not_true, Bool.false_and]
    · have : (x :: y :: r).Nodup ↔ (y :: r).Nodup := by rw [List.nodup_cons (a := x)]; exact ⟨fun h => h.2, fun h => ⟨c, h⟩⟩
      simp only [c, decide_false, Bool.not_false, Bool.true_and, this]
theorem way_zip (f : Int → Int → Bool) : ∀ (is : List Int), ((List.range (is.length - 1)).all fun j => f (is.getD j 0) (is.getD (j + 1) 0)) = (is.zip is.tail).all fun p => f p.1 p.2
  | [] => rfl
  | [x] => rfl
  | x :: y :: r => by
    have ih := way_zip f (y :: r)
    rw [show (x :: y :: r).length - 1 = r.length + 1 by simp, range_all_succ]
    rw [show (y :: r).length - 1 = r.length by simp] at ih
    have e : (fun j => f ((x :: y :: r).getD (j + 1) 0) ((x :: y :: r).getD (j + 1 + 1) 0)) = fun j => f ((y :: r).getD j 0) ((y :: r).getD (j + 1) 0) := by
      funext j; rfl
    rw [e, ih]
    simp only [List.tail_cons, List.zip_cons_cons, List.all_cons]
    rfl
end Py
namespace Py
open PySem PySem.Spec PyProof.Rows L2
theorem ins_permQ (x : Int) (l : List Int) : (isort.ins x l).Perm (x :: l) := by
  induction l with
  | nil => exact List.Perm.refl _
  | cons y ys ih =>
    unfold isort.ins
    split
    · exact List.Perm.refl _
    · exact (List.Perm.cons y ih).trans (List.Perm.swap ..)
theorem isort_permQ (l : List Int) : (isort l).Perm l := by
  induction l with
  | nil => exact List.Perm.refl _
  | cons x xs ih => exact (ins_permQ x _).trans (List.Perm.cons x ih)
theorem le_asc : ∀ {l : List Int}, leI l = true → l.Nodup → ascI l = true
  | [], _, _ => rfl
  | [_], _, _ => rfl
  | x :: y :: r, h, hn => by
    simp only [leI, Bool.and_eq_true, decide_eq_true_eq] at h
    obtain ⟨h1, h2⟩ := List.nodup_cons.mp hn
    simp only [ascI, Bool.and_eq_true, decide_eq_true_eq]
    refine ⟨?_, le_asc h.2 h2⟩
    have : x ≠ y := fun z => h1 (z ▸ List.mem_cons_self ..)
    omega
theorem f1_sorted' {is : List Int} : f1D .sorted (.lst (nums is)) = .ok (.lst (nums (isort is))) := by
  show (match intsOf (nums is) with
    | some ns => R.ok (D.lst ((isort ns).map .int))
    | none => .st) = _
  rw [show intsOf (nums is) = some is from intsOf_ints is]; rfl
end Py
set_option Elab.async false
set_option linter.all false
set_option maxRecDepth 100000
set_option maxHeartbeats 0
namespace Ln
open PySem PySem.Spec PyProof.Rows L2 Py
def d_law_box : Def := { name := (Str.ofString "_law_box"), np := 2, mu := false, fr := true, N := [(Str.ofString "_law_script"), (Str.ofString "_law_nth_so"), (Str.ofString "_law_cell")], own := [], body := [.set 2 (.ife (.cmp .lt (.v 1) (.f1 .len (.v 0))) (.ix (.v 0) (.v 1)) (.k (.int 0))),
    .ret (.lst [(.bin .mul (.f1 .abs (.v 2)) (.f1 .int (.cmp .ge (.f1 .abs (.v 2)) (.bin .pow (.k (.int 10)) (.k (.int 18)))))), (.bin .add (.bin .add (.bin .mod (.f1 .int (.v 2)) (.k (.int 2305843009213693951))) (.bin .mul (.k (.int 39373)) (.v 1))) (.k (.int 1929000))), (.k (.int 0))])] }
def d_law_take : Def := { name := (Str.ofString "_law_take"), np := 2, mu := true, fr := false, N := [(Str.ofString "_law_box_here"), (Str.ofString "_law_below_so"), (Str.ofString "_law_once"), (Str.ofString "_law_far"), (Str.ofString "_law_twice"), (Str.ofString "_law_drawn")], own := [0], body := [.if_ (.cmp .gt (.ix (.p 0) (.k (.int 0))) (.k (.int 0))) [.set 5 (.bin .mod (.f1 .int (.ix (.p 0) (.k (.int 0)))) (.v 1)),
    .put 0 (.k (.int 0)) (.bin .fdiv (.ix (.p 0) (.k (.int 0))) (.v 1)),
    .ret (.v 5)] [],
    .put 0 (.k (.int 2)) (.bin .add (.ix (.p 0) (.k (.int 2))) (.k (.int 1))),
    .set 2 (.bin .mod (.f1 .int (.bin .mul (.bin .add (.ix (.p 0) (.k (.int 1))) (.bin .mul (.k (.int 48271)) (.ix (.p 0) (.k (.int 2))))) (.bin .add (.k (.int 39373)) (.ix (.p 0) (.k (.int 2)))))) (.k (.int 2147483647))),
    .set 3 (.bin .add (.bin .mod (.f1 .int (.v 2)) (.k (.int 40009))) (.k (.int 7))),
    .set 4 (.bin .mod (.f1 .int (.bin .mul (.bin .add (.bin .add (.v 2) (.ix (.p 0) (.k (.int 2)))) (.bin .fdiv (.ix (.p 0) (.k (.int 1))) (.k (.int 1000003)))) (.v 3))) (.k (.int 2147483629))),
    .ret (.bin .mod (.f1 .int (.bin .fdiv (.bin .mod (.f1 .int (.bin .add (.bin .mul (.v 4) (.k (.int 48271))) (.v 2))) (.k (.int 2147483587))) (.k (.int 64)))) (.v 1))] }
def d_law_cells : Def := { name := (Str.ofString "_law_cells"), np := 2, mu := false, fr := false, N := [(Str.ofString "_law_script"), (Str.ofString "_law_top_so"), (Str.ofString "_law_cells_so"), (Str.ofString "_law_nth_so"), (Str.ofString "_law_cell"), (Str.ofString "_law_at_so")], own := [2], body := [.own 2 (.or (.f1 .list (.sl (.v 0) .no (.v 1))) (.lst [(.k (.int 0))])),
    .for_ (.tup [(.name 3), (.name 4)]) (.enum (.sl (.v 0) (.v 1) (.k (.int 63)))) [.set 5 (.bin .mod (.f1 .int (.v 3)) (.v 1)),
    .put 2 (.v 5) (.bin .add (.ix (.p 2) (.v 5)) (.bin .mul (.v 4) (.bin .add (.v 3) (.k (.int 2)))))],
    .ret (.mv 2)] }
def d_law_same : Def := { name := (Str.ofString "_law_same"), np := 2, mu := false, fr := false, N := [(Str.ofString "_law_got"), (Str.ofString "_law_due"), (Str.ofString "_law_mine"), (Str.ofString "_law_its")], own := [], body := [.if_ (.isi (.v 1) [.list, .tuple]) [.if_ (.or (.cmp .ne (.isi (.v 0) [.list]) (.isi (.v 1) [.list])) (.cmp .ne (.isi (.v 0) [.tuple]) (.isi (.v 1) [.tuple]))) [.ret (.k (.bl false))] [],
    .ret (.and (.cmp .eq (.f1 .len (.v 0)) (.f1 .len (.v 1))) (.f1 .all (.lc (.call 3 false [(.v 2), (.v 3)]) (.tup [(.name 2), (.name 3)]) (.zip (.v 0) (.v 1)) (.k (.bl true)))))] [],
    .if_ (.or (.isn (.v 1)) (.isi (.v 1) [.bool, .str])) [.ret (.and (.cmp .eq (.v 0) (.v 1)) (.and (.cmp .eq (.isi (.v 0) [.bool]) (.isi (.v 1) [.bool])) (.cmp .eq (.isn (.v 0)) (.isn (.v 1)))))] [],
    .ret (.and (.isi (.v 0) [.int]) (.and (.not (.isi (.v 0) [.bool])) (.cmp .eq (.v 0) (.v 1))))] }
def d_law_of : Def := { name := (Str.ofString "_law_of"), np := 2, mu := true, fr := false, N := [(Str.ofString "_law_box_here"), (Str.ofString "_law_pool_so")], own := [0], body := [.ret (.ix (.v 1) (.call 1 true [(.p 0), (.f1 .len (.v 1))]))] }
def d_law_which : Def := { name := (Str.ofString "_law_which"), np := 1, mu := false, fr := false, N := [(Str.ofString "_law_made_so"), (Str.ofString "_law_some")], own := [], body := [.set 1 (.lst [(.isE [((Str.ofString "NoAsker"), true), ((Str.ofString "NoFirm"), true), ((Str.ofString "NoMember"), true), ((Str.ofString "NoNumber"), true), ((Str.ofString "NoWord"), true), ((Str.ofString "NothingDone"), true), ((Str.ofString "BadLine"), false), ((Str.ofString "BadText"), false), ((Str.ofString "Lost"), false), ((Str.ofString "Unfit"), false)] (.v 0) (.own (Str.ofString "Unfit"))), (.isE [((Str.ofString "NoAsker"), true), ((Str.ofString "NoFirm"), true), ((Str.ofString "NoMember"), true), ((Str.ofString "NoNumber"), true), ((Str.ofString "NoWord"), true), ((Str.ofString "NothingDone"), true), ((Str.ofString "BadLine"), false), ((Str.ofString "BadText"), false), ((Str.ofString "Lost"), false), ((Str.ofString "Unfit"), false)] (.v 0) (.own (Str.ofString "BadText")))]),
    .set 1 (.bin .add (.v 1) (.lst [(.isE [((Str.ofString "NoAsker"), true), ((Str.ofString "NoFirm"), true), ((Str.ofString "NoMember"), true), ((Str.ofString "NoNumber"), true), ((Str.ofString "NoWord"), true), ((Str.ofString "NothingDone"), true), ((Str.ofString "BadLine"), false), ((Str.ofString "BadText"), false), ((Str.ofString "Lost"), false), ((Str.ofString "Unfit"), false)] (.v 0) (.own (Str.ofString "BadLine"))), (.isE [((Str.ofString "NoAsker"), true), ((Str.ofString "NoFirm"), true), ((Str.ofString "NoMember"), true), ((Str.ofString "NoNumber"), true), ((Str.ofString "NoWord"), true), ((Str.ofString "NothingDone"), true), ((Str.ofString "BadLine"), false), ((Str.ofString "BadText"), false), ((Str.ofString "Lost"), false), ((Str.ofString "Unfit"), false)] (.v 0) (.own (Str.ofString "Lost"))), (.isE [((Str.ofString "NoAsker"), true), ((Str.ofString "NoFirm"), true), ((Str.ofString "NoMember"), true), ((Str.ofString "NoNumber"), true), ((Str.ofString "NoWord"), true), ((Str.ofString "NothingDone"), true), ((Str.ofString "BadLine"), false), ((Str.ofString "BadText"), false), ((Str.ofString "Lost"), false), ((Str.ofString "Unfit"), false)] (.v 0) (.own (Str.ofString "NoAsker")))])),
    .set 1 (.bin .add (.v 1) (.lst [(.isE [((Str.ofString "NoAsker"), true), ((Str.ofString "NoFirm"), true), ((Str.ofString "NoMember"), true), ((Str.ofString "NoNumber"), true), ((Str.ofString "NoWord"), true), ((Str.ofString "NothingDone"), true), ((Str.ofString "BadLine"), false), ((Str.ofString "BadText"), false), ((Str.ofString "Lost"), false), ((Str.ofString "Unfit"), false)] (.v 0) (.own (Str.ofString "NoFirm"))), (.isE [((Str.ofString "NoAsker"), true), ((Str.ofString "NoFirm"), true), ((Str.ofString "NoMember"), true), ((Str.ofString "NoNumber"), true), ((Str.ofString "NoWord"), true), ((Str.ofString "NothingDone"), true), ((Str.ofString "BadLine"), false), ((Str.ofString "BadText"), false), ((Str.ofString "Lost"), false), ((Str.ofString "Unfit"), false)] (.v 0) (.own (Str.ofString "NoMember"))), (.isE [((Str.ofString "NoAsker"), true), ((Str.ofString "NoFirm"), true), ((Str.ofString "NoMember"), true), ((Str.ofString "NoNumber"), true), ((Str.ofString "NoWord"), true), ((Str.ofString "NothingDone"), true), ((Str.ofString "BadLine"), false), ((Str.ofString "BadText"), false), ((Str.ofString "Lost"), false), ((Str.ofString "Unfit"), false)] (.v 0) (.own (Str.ofString "NoNumber")))])),
    .ret (.bin .add (.v 1) (.lst [(.isE [((Str.ofString "NoAsker"), true), ((Str.ofString "NoFirm"), true), ((Str.ofString "NoMember"), true), ((Str.ofString "NoNumber"), true), ((Str.ofString "NoWord"), true), ((Str.ofString "NothingDone"), true), ((Str.ofString "BadLine"), false), ((Str.ofString "BadText"), false), ((Str.ofString "Lost"), false), ((Str.ofString "Unfit"), false)] (.v 0) (.own (Str.ofString "NoWord"))), (.isE [((Str.ofString "NoAsker"), true), ((Str.ofString "NoFirm"), true), ((Str.ofString "NoMember"), true), ((Str.ofString "NoNumber"), true), ((Str.ofString "NoWord"), true), ((Str.ofString "NothingDone"), true), ((Str.ofString "BadLine"), false), ((Str.ofString "BadText"), false), ((Str.ofString "Lost"), false), ((Str.ofString "Unfit"), false)] (.v 0) (.own (Str.ofString "NothingDone")))]))] }
def d_law_place_right : Def := { name := (Str.ofString "_law_place_right"), np := 2, mu := false, fr := false, N := [(Str.ofString "_law_made_so"), (Str.ofString "_law_spot_so"), (Str.ofString "_law_above_so"), (Str.ofString "_law_lap")], own := [], body := [.set 2 (.lst [(.isE [((Str.ofString "NoAsker"), true), ((Str.ofString "NoFirm"), true), ((Str.ofString "NoMember"), true), ((Str.ofString "NoNumber"), true), ((Str.ofString "NoWord"), true), ((Str.ofString "NothingDone"), true), ((Str.ofString "BadLine"), false), ((Str.ofString "BadText"), false), ((Str.ofString "Lost"), false), ((Str.ofString "Unfit"), false)] (.v 0) .ve), (.isE [((Str.ofString "NoAsker"), true), ((Str.ofString "NoFirm"), true), ((Str.ofString "NoMember"), true), ((Str.ofString "NoNumber"), true), ((Str.ofString "NoWord"), true), ((Str.ofString "NothingDone"), true), ((Str.ofString "BadLine"), false), ((Str.ofString "BadText"), false), ((Str.ofString "Lost"), false), ((Str.ofString "Unfit"), false)] (.v 0) .le)]),
    .set 2 (.bin .add (.v 2) (.lst [(.isE [((Str.ofString "NoAsker"), true), ((Str.ofString "NoFirm"), true), ((Str.ofString "NoMember"), true), ((Str.ofString "NoNumber"), true), ((Str.ofString "NoWord"), true), ((Str.ofString "NothingDone"), true), ((Str.ofString "BadLine"), false), ((Str.ofString "BadText"), false), ((Str.ofString "Lost"), false), ((Str.ofString "Unfit"), false)] (.v 0) .ki)])),
    .if_ (.not (.call 3 false [(.v 2), (.lst [(.cmp .lt (.v 1) (.k (.int 4))), (.cmp .gt (.v 1) (.k (.int 3))), (.k (.bl false))])])) [.ret (.k (.bl false))] [],
    .ret (.call 3 false [(.call 5 false [(.v 0)]), (.lc (.cmp .eq (.v 3) (.v 1)) (.name 3) (.rg1 (.k (.int 10))) (.k (.bl true)))])] }
def d_law_caught : Def := { name := (Str.ofString "_law_caught"), np := 2, mu := false, fr := false, N := [(Str.ofString "_law_one_so"), (Str.ofString "_law_tag_so"), (Str.ofString "error_a"), (Str.ofString "error_b"), (Str.ofString "_law_caught_so"), (Str.ofString "_law_other_so")], own := [], body := [.unp (.tup [(.name 4), (.name 5)]) (.tup [(.k .non), (.k .non)]),
    .rz 2 4 (Str.ofString "NoMember") (Str.ofString "number") 0,
    .rz 3 5 (Str.ofString "NoWord") (Str.ofString "word") 1,
    .ret (.call 3 false [(.lst [(.att [(Str.ofString "NoAsker"), (Str.ofString "NoFirm"), (Str.ofString "NoMember"), (Str.ofString "NoNumber"), (Str.ofString "BadLine"), (Str.ofString "Lost")] (Str.ofString "number") (.v 4)), (.att [(Str.ofString "NoWord")] (Str.ofString "word") (.v 5))]), (.lst [(.v 0), (.v 1)])])] }
def d_law_right : Def := { name := (Str.ofString "_law_right"), np := 1, mu := true, fr := false, N := [(Str.ofString "_law_box_here"), (Str.ofString "_law_by_place"), (Str.ofString "_law_by_name"), (Str.ofString "_law_some"), (Str.ofString "_law_far_so"), (Str.ofString "_law_one_so"), (Str.ofString "_law_tag_so"), (Str.ofString "_law_got"), (Str.ofString "_law_own"), (Str.ofString "_law_lap")], own := [0], body := [.par [(5, false), (6, false)] [(.bin .mul (.bin .sub (.call 1 true [(.p 0), (.k (.int 999))]) (.k (.int 400))) (.call 4 true [(.p 0), (.lst [(.k (.int 1)), (.bin .pow (.k (.int 10)) (.k (.int 27)))])])), (.call 4 true [(.p 0), (.lst [(.k (.str (Str.ofString "i"))), (.k (.str (Str.ofString "sums"))), (.k (.str (Str.ofString "")))])])],
    .set 1 (.lst [(.mk0 (Str.ofString "Unfit")), (.mk0 (Str.ofString "BadText")), (.mk1 (Str.ofString "BadLine") (Str.ofString "number") (.v 5)), (.mk1 (Str.ofString "Lost") (Str.ofString "number") (.v 5)), (.mk1 (Str.ofString "NoAsker") (Str.ofString "number") (.v 5)), (.mk1 (Str.ofString "NoFirm") (Str.ofString "number") (.v 5))]),
    .set 1 (.bin .add (.v 1) (.lst [(.mk1 (Str.ofString "NoMember") (Str.ofString "number") (.v 5)), (.mk1 (Str.ofString "NoNumber") (Str.ofString "number") (.v 5)), (.mk1 (Str.ofString "NoWord") (Str.ofString "word") (.v 6)), (.mk0 (Str.ofString "NothingDone"))])),
    .set 2 (.lst [(.mk0 (Str.ofString "Unfit")), (.mk0 (Str.ofString "BadText")), (.mk1 (Str.ofString "BadLine") (Str.ofString "number") (.v 5)), (.mk1 (Str.ofString "Lost") (Str.ofString "number") (.v 5)), (.mk1 (Str.ofString "NoAsker") (Str.ofString "number") (.v 5))]),
    .set 2 (.bin .add (.v 2) (.lst [(.mk1 (Str.ofString "NoFirm") (Str.ofString "number") (.v 5)), (.mk1 (Str.ofString "NoMember") (Str.ofString "number") (.v 5)), (.mk1 (Str.ofString "NoNumber") (Str.ofString "number") (.v 5))])),
    .set 2 (.bin .add (.v 2) (.lst [(.mk1 (Str.ofString "NoWord") (Str.ofString "word") (.v 6)), (.mk0 (Str.ofString "NothingDone"))])),
    .for_ (.name 3) (.lst [(.v 1), (.v 2)]) [.set 7 (.bin .add (.lc (.att [(Str.ofString "NoAsker"), (Str.ofString "NoFirm"), (Str.ofString "NoMember"), (Str.ofString "NoNumber"), (Str.ofString "BadLine"), (Str.ofString "Lost")] (Str.ofString "number") (.v 8)) (.name 8) (.sl (.v 3) (.k (.int 2)) (.k (.int 8))) (.k (.bl true))) (.lst [(.att [(Str.ofString "NoWord")] (Str.ofString "word") (.ix (.v 3) (.k (.int 8))))])),
    .if_ (.not (.call 3 false [(.v 7), (.bin .add (.bin .mul (.lst [(.v 5)]) (.k (.int 6))) (.lst [(.v 6)]))])) [.ret (.k (.bl false))] [],
    .if_ (.not (.f1 .all (.lc (.call 6 false [(.v 8), (.v 9)]) (.tup [(.name 9), (.name 8)]) (.enum (.v 3)) (.k (.bl true))))) [.ret (.k (.bl false))] []],
    .set 4 (.mk1 (Str.ofString "Lost") (Str.ofString "number") (.bin .pow (.k (.int 10)) (.k (.int 30)))),
    .ret (.and (.call 7 false [(.v 5), (.v 6)]) (.call 3 false [(.att [(Str.ofString "NoAsker"), (Str.ofString "NoFirm"), (Str.ofString "NoMember"), (Str.ofString "NoNumber"), (Str.ofString "BadLine"), (Str.ofString "Lost")] (Str.ofString "number") (.v 4)), (.bin .pow (.k (.int 10)) (.k (.int 30)))]))] }
def d_law : Def := { name := (Str.ofString "law"), np := 1, mu := false, fr := false, N := [(Str.ofString "_law_script"), (Str.ofString "_law_cells_here"), (Str.ofString "_law_nth_so")], own := [], body := [.set 1 (.call 2 false [(.v 0), (.k (.int 3))]),
    .ret (.f1 .all (.lc (.callb 8 0 [(.v 1), (.v 2)]) (.name 2) (.rg1 (.f1 .len (.v 1))) (.k (.bl true))))] }
def defs : List Def := [d_law_box, d_law_take, d_law_cells, d_law_same, d_law_of, d_law_which, d_law_place_right, d_law_caught, d_law_right, d_law]
end Ln
set_option Elab.async false
set_option linter.all false
set_option maxRecDepth 100000
set_option maxHeartbeats 4000000
namespace Ln
open PySem PySem.Spec PyProof.Rows L2 Py
def box (x y z : Int) : D := .lst [.int x, .int y, .int z]
def Bx (t : Nat) (b : D) : Prop := ∃ x y z : Int, b = box x y z ∧ 0 ≤ x ∧ 0 ≤ y ∧ y < 9223372036854775808 ∧ 0 ≤ z ∧ z ≤ t
theorem Bx.le {t u : Nat} {b : D} (h : Bx t b) (l : t ≤ u) : Bx u b := by
  obtain ⟨x, y, z, e, h1, h2, h3, h4, h5⟩ := h
  exact ⟨x, y, z, e, h1, h2, h3, h4, by omega⟩
theorem small_ok {i : Int} (h : -(2 ^ 64) < i) (g : i < 2 ^ 64) : small i = true := by
  unfold small
  rw [Bool.and_eq_true, decide_eq_true_eq, decide_eq_true_eq]
  exact ⟨h, g⟩
theorem ix_b0 {x y z : Int} : ixD (box x y z) (.int 0) = .ok (.int x) := Eq.trans rfl rfl
theorem ix_b1 {x y z : Int} : ixD (box x y z) (.int 1) = .ok (.int y) := Eq.trans rfl rfl
theorem ix_b2 {x y z : Int} : ixD (box x y z) (.int 2) = .ok (.int z) := Eq.trans rfl rfl
theorem put_b0 {x y z u : Int} : putK (box x y z) (.int 0) (.int u) = .ok (box u y z) := Eq.trans rfl rfl
theorem put_b2 {x y z u : Int} : putK (box x y z) (.int 2) (.int u) = .ok (box x y u) := Eq.trans rfl rfl
theorem take_ok {n t : Nat} {b : D} {m : Int} (h : Bx t b) (ht : t ≤ 1000000000) (h0 : 0 < m) (h1 : m < 1000) : ∃ v b', callN defs (n + 1) 1 [b, .int m] = .ok (.int v, b') ∧ Bx (t + 1) b' ∧ 0 ≤ v ∧ v < m := by
  obtain ⟨x, y, z, rfl, hx, hy, hy2, hz, hz2⟩ := h
  by_cases c : 0 < x
  · refine ⟨x % m, box (x / m) y z, ?_, ⟨_, _, _, rfl, Int.ediv_nonneg hx (by omega), hy, hy2, hz, by omega⟩, Int.emod_nonneg _ (by omega), Int.emod_lt_of_pos _ h0⟩
    refine call_mt rfl rfl rfl ?_
    generalize callN defs n = cf
    have m1 := bin_mod (i := x) h0
    have m2 := bin_fdiv (i := x) h0 (by omega)
    simp [d_law_take, startE, opd_x, ev_f1x, ix_b0, put_b0, cmp_gt, c, m1, m2]
  · have p1 : ∀ i, binop .mul (.int 48271) (.int i) = .ok (.int (48271 * i)) := fun i => bin_mul (.inl (small_ok (by omega) (by omega)))
    have p2 : ∀ i, binop .mul (.int i) (.int 48271) = .ok (.int (i * 48271)) := fun i => bin_mul (.inr (small_ok (by omega) (by omega)))
    have p3 : ∀ i, binop .mul (.int i) (.int (39373 + (z + 1))) = .ok (.int (i * (39373 + (z + 1)))) := fun i => bin_mul (.inr (small_ok (by omega) (by omega)))
    have p4 : ∀ i j, binop .mul (.int i) (.int (j % 40009 + 7)) = .ok (.int (i * (j % 40009 + 7))) := fun i j => bin_mul (.inr (small_ok (by omega) (by omega)))
    have q1 : ∀ i, binop .mod (.int i) (.int 2147483647) = .ok (.int (i % 2147483647)) := fun i => bin_mod (by omega)
    have q2 : ∀ i, binop .mod (.int i) (.int 40009) = .ok (.int (i % 40009)) := fun i => bin_mod (by omega)
    have q3 : ∀ i, binop .mod (.int i) (.int 2147483629) = .ok (.int (i % 2147483629)) := fun i => bin_mod (by omega)
    have q4 : ∀ i, binop .mod (.int i) (.int 2147483587) = .ok (.int (i % 2147483587)) := fun i => bin_mod (by omega)
    have q5 : ∀ i, binop .mod (.int i) (.int m) = .ok (.int (i % m)) := fun i => bin_mod h0
    have r1 : ∀ i, binop .fdiv (.int i) (.int 1000003) = .ok (.int (i / 1000003)) := fun i => bin_fdiv (by omega) (by omega)
    have r2 : ∀ i, binop .fdiv (.int i) (.int 64) = .ok (.int (i / 64)) := fun i => bin_fdiv (by omega) (by omega)
    have key : ∃ v : Int, callN defs (n + 1) 1 [box x y z, .int m] = .ok (.int (v % m), box x y (z + 1)) := by
      refine ⟨(((y + 48271 * (z + 1)) * (39373 + (z + 1)) % 2147483647 + (z + 1) + y / 1000003) * ((y + 48271 * (z + 1)) * (39373 + (z + 1)) % 2147483647 % 40009 + 7) % 2147483629 * 48271 + (y + 48271 * (z + 1)) * (39373 + (z + 1)) % 2147483647) % 2147483587 / 64, call_mt rfl rfl rfl ?_⟩
      generalize callN defs n = cf
      simp [d_law_take, startE, opd_x, ev_f1x, ix_b0, ix_b1, ix_b2, put_b2, cmp_gt, c, p1, p2, p3, p4, q1, q2, q3, q4, q5, r1, r2]
    obtain ⟨v, e⟩ := key
    exact ⟨v % m, box x y (z + 1), e, ⟨_, _, _, rfl, hx, hy, hy2, by omega, by omega⟩, Int.emod_nonneg _ (by omega), Int.emod_lt_of_pos _ h0⟩
theorem of_ok {n t : Nat} {b : D} {xs : List D} (h : Bx t b) (ht : t ≤ 1000000000) (hx : xs ≠ []) (hl : xs.length < 1000) : ∃ d b', callN defs (n + 2) 4 [b, .lst xs] = .ok (d, b') ∧ Bx (t + 1) b' ∧ d ∈ xs := by
  have pos : 0 < xs.length := List.length_pos_iff.mpr hx
  obtain ⟨v, b', e, hb, h0, h1⟩ := take_ok (n := n) (m := xs.length) h ht (by omega) (by omega)
  have ev : v = ((v.toNat : Nat) : Int) := by omega
  have lt : v.toNat < xs.length := by omega
  have e2 : ixD (.lst xs) (.int v) = .ok (gt xs v.toNat) := by rw [ev, ixD_lst lt, Int.toNat_natCast]
  refine ⟨gt xs v.toNat, b', ?_, hb, gt_mem lt⟩
  refine call_mt rfl rfl rfl ?_
  simp [d_law_of, startE, opd_x, ev_f1x, e, e2]
theorem pairs_self (xs : List D) : pairs xs xs = xs.map fun x => D.tup [x, x] := by
  unfold pairs
  induction xs with
  | nil => rfl
  | cons x xs ih => rw [List.zip_cons_cons, List.map_cons, ih, List.map_cons]
theorem all_true (xs : List D) : f1D .all (.lst (xs.map fun _ => D.bl true)) = .ok (.bl true) := by
  rw [all_map (fun _ => true) xs]
  congr 2
  exact List.all_eq_true.mpr fun _ _ => rfl
theorem same_seq {n : Nat} {xs : List D} (d : D) (hd : d = .tup xs ∨ d = .lst xs) (hl : xs.length < 1000) (h : ∀ x ∈ xs, callN defs n 3 [x, x] = .ok (.bl true, .non)) : callN defs (n + 1) 3 [d, d] = .ok (.bl true, .non) := by
  have h1 : ev (callN defs n) (.lc (.call 3 false [(.v 2), (.v 3)]) (.tup [(.name 2), (.name 3)]) (.zip (.v 0) (.v 1)) (.k (.bl true))) [some d, some d, none, none] = .ok (.lst (xs.map fun _ => D.bl true), [some d, some d, none, none]) := by
    refine ev_lcm (z := .non) (z' := .non) xs (fun x => .tup [x, x]) (fun x => [some d, some d, some x, some x]) (fun _ => .bl true) ?_ (by simp [tgSlots, tgsSlots]) (fun _ _ => rfl) (fun _ _ => rfl) (fun x hx => by simp [opd_x, h x hx]) (by omega)
    rcases hd with rfl | rfl <;> simp [evSrc_zip, zipD, pairs_self]
  have h2 := all_true xs
  refine call_rt rfl rfl rfl ?_
  generalize callN defs n = cf at *
  rcases hd with rfl | rfl <;> simp [d_law_same, startE, ev_f1x, opd_x, h1, h2, noneOrTy, isTy, tyOf, cmp_ne, cmp_eq]
theorem deq_str {s : Str} (h : PyData.strOk s = true) (hl : s.length ≤ LIM) : deq (.str s) (.str s) = .ok true := by
  have z : Th 0 (.str s) := ⟨h, hl⟩
  rw [deq_th (n := 0) (m := 0) z z (by omega) (by omega)]
  simp [pyOf, PyData.eqv]
theorem deq_non : deq .non .non = .ok true := by
  rw [deq_th (n := 0) (m := 0) Th.non Th.non (by omega) (by omega)]
  simp [pyOf, PyData.eqv]
theorem same_flat {m n : Nat} (d : D) (hf : flat d = true) (h : Th m d) : callN defs (n + 1) 3 [d, d] = .ok (.bl true, .non) := by
  refine call_rt rfl rfl rfl ?_
  generalize callN defs n = cf at *
  cases d with
  | str s =>
    have h : PyData.strOk s = true ∧ s.length ≤ LIM := by cases m <;> exact h
    have := deq_str h.1 h.2
    simp [d_law_same, startE, opd_x, noneOrTy, isTy, tyOf, cmp_eq, isNonD, this]
  | non => simp [d_law_same, startE, opd_x, noneOrTy, isTy, tyOf, cmp_eq, isNonD, deq_non]
  | bl b => simp [d_law_same, startE, opd_x, noneOrTy, isTy, tyOf, cmp_eq, isNonD]
  | int i => simp [d_law_same, startE, opd_x, noneOrTy, isTy, tyOf, cmp_eq, isNonD]
  | _ => cases hf
theorem same_ok : ∀ (m : Nat) (d : D), Th m d → ∀ n, m < n → callN defs n 3 [d, d] = .ok (.bl true, .non) := by
  intro m
  induction m with
  | zero =>
    intro d h n hn
    obtain ⟨n, rfl⟩ : ∃ k, n = k + 1 := ⟨n - 1, by omega⟩
    cases d <;> first | exact same_flat _ rfl h | exact h.elim
  | succ m ih =>
    intro d h n hn
    obtain ⟨n, rfl⟩ : ∃ k, n = k + 1 := ⟨n - 1, by omega⟩
    cases d with
    | tup xs => exact same_seq _ (.inl rfl) (by have := h.1; omega) fun x hx => ih x (h.2 x hx) n (by omega)
    | lst xs => exact same_seq _ (.inr rfl) (by have := h.1; omega) fun x hx => ih x (h.2 x hx) n (by omega)
    | rng _ _ => exact h.elim
    | fz _ => exact h.elim
    | dc _ _ => exact h.elim
    | er _ _ _ => exact h.elim
    | _ => exact same_flat _ rfl h
theorem th_tup {n : Nat} {xs : List D} (hl : xs.length < 64) (h : ∀ x ∈ xs, Th n x) : Th (n + 1) (.tup xs) := ⟨hl, h⟩
theorem th_lst {n : Nat} {xs : List D} (hl : xs.length < 64) (h : ∀ x ∈ xs, Th n x) : Th (n + 1) (.lst xs) := ⟨hl, h⟩
end Ln
set_option Elab.async false
set_option linter.all false
set_option maxRecDepth 100000
set_option maxHeartbeats 4000000
namespace Ln
open PySem PySem.Spec PyProof.Rows L2 Py
def errsD (x : Int) (t : Str) : List D := [.er (Str.ofString "Unfit") (Str.ofString "") [], .er (Str.ofString "BadText") (Str.ofString "") [], .er (Str.ofString "BadLine") (Str.ofString "number") [.int x], .er (Str.ofString "Lost") (Str.ofString "number") [.int x], .er (Str.ofString "NoAsker") (Str.ofString "number") [.int x],
  .er (Str.ofString "NoFirm") (Str.ofString "number") [.int x], .er (Str.ofString "NoMember") (Str.ofString "number") [.int x], .er (Str.ofString "NoNumber") (Str.ofString "number") [.int x], .er (Str.ofString "NoWord") (Str.ofString "word") [.str t], .er (Str.ofString "NothingDone") (Str.ofString "") []]
theorem place0 (a : Str) (ds : List D) : callN defs 62 6 [.er (Str.ofString "Unfit") a ds, .int 0] = .ok (.bl true, .non) := by kernel_rfl
theorem place1 (a : Str) (ds : List D) : callN defs 62 6 [.er (Str.ofString "BadText") a ds, .int 1] = .ok (.bl true, .non) := by kernel_rfl
theorem place2 (a : Str) (ds : List D) : callN defs 62 6 [.er (Str.ofString "BadLine") a ds, .int 2] = .ok (.bl true, .non) := by kernel_rfl
theorem place3 (a : Str) (ds : List D) : callN defs 62 6 [.er (Str.ofString "Lost") a ds, .int 3] = .ok (.bl true, .non) := by kernel_rfl
theorem place4 (a : Str) (ds : List D) : callN defs 62 6 [.er (Str.ofString "NoAsker") a ds, .int 4] = .ok (.bl true, .non) := by kernel_rfl
theorem place5 (a : Str) (ds : List D) : callN defs 62 6 [.er (Str.ofString "NoFirm") a ds, .int 5] = .ok (.bl true, .non) := by kernel_rfl
theorem place6 (a : Str) (ds : List D) : callN defs 62 6 [.er (Str.ofString "NoMember") a ds, .int 6] = .ok (.bl true, .non) := by kernel_rfl
theorem place7 (a : Str) (ds : List D) : callN defs 62 6 [.er (Str.ofString "NoNumber") a ds, .int 7] = .ok (.bl true, .non) := by kernel_rfl
theorem place8 (a : Str) (ds : List D) : callN defs 62 6 [.er (Str.ofString "NoWord") a ds, .int 8] = .ok (.bl true, .non) := by kernel_rfl
theorem place9 (a : Str) (ds : List D) : callN defs 62 6 [.er (Str.ofString "NothingDone") a ds, .int 9] = .ok (.bl true, .non) := by kernel_rfl
theorem place_ok (x : Int) (t : Str) : ∀ j, j < 10 → callN defs 62 6 [gt (errsD x t) j, .int j] = .ok (.bl true, .non)
  | 0, _ => place0 _ _
  | 1, _ => place1 _ _
  | 2, _ => place2 _ _
  | 3, _ => place3 _ _
  | 4, _ => place4 _ _
  | 5, _ => place5 _ _
  | 6, _ => place6 _ _
  | 7, _ => place7 _ _
  | 8, _ => place8 _ _
  | 9, _ => place9 _ _
  | j + 10, h => absurd h (by omega)
theorem same_int {n : Nat} {x : Int} : callN defs (n + 1) 3 [.int x, .int x] = .ok (.bl true, .non) := same_flat (m := 0) _ rfl trivial
theorem pow27 : binop .pow (.int 10) (.int 27) = .ok (.int 1000000000000000000000000000) := Eq.trans rfl rfl
theorem pow30 : binop .pow (.int 10) (.int 30) = .ok (.int 1000000000000000000000000000000) := Eq.trans rfl rfl
def nmsN : List Str := [(Str.ofString "NoAsker"), (Str.ofString "NoFirm"), (Str.ofString "NoMember"), (Str.ofString "NoNumber"), (Str.ofString "BadLine"), (Str.ofString "Lost")]
theorem caught_ok (x : Int) (t : Str) (ht : Th 0 (.str t)) : callN defs 62 7 [.int x, .str t] = .ok (.bl true, .non) := by
  have h1 : callN defs 61 3 [.lst [.int x, .str t], .lst [.int x, .str t]] = .ok (.bl true, .non) := same_ok 1 (.lst [.int x, .str t]) ⟨by simp, fun y hy => by
    rcases List.mem_cons.mp hy with rfl | hy
    · exact trivial
    · rw [List.mem_singleton.mp hy]; exact ht⟩ 61 (by omega)
  have a1 : attD [(Str.ofString "NoAsker"), (Str.ofString "NoFirm"), (Str.ofString "NoMember"), (Str.ofString "NoNumber"), (Str.ofString "BadLine"), (Str.ofString "Lost")] (Str.ofString "number") (.er (Str.ofString "NoMember") (Str.ofString "number") [.int x]) = .ok (.int x) := by kernel_rfl
  have a2 : attD [(Str.ofString "NoWord")] (Str.ofString "word") (.er (Str.ofString "NoWord") (Str.ofString "word") [.str t]) = .ok (.str t) := by kernel_rfl
  refine call_rt rfl rfl rfl ?_
  generalize callN defs 61 = cf at *
  simp [d_law_caught, startE, opd_x, a1, a2, h1]
end Ln
set_option Elab.async false
set_option linter.all false
set_option maxRecDepth 100000
set_option maxHeartbeats 4000000
namespace Ln
open PySem PySem.Spec PyProof.Rows L2 Py
theorem evSrc_sl {cf : CF} {a lo hi : E} {η : Py.Env} : evSrc cf (.sl a lo hi) η = (opd (.sl a lo hi) (ev cf (.sl a lo hi)) η).bind fun (x, η1) => (noer (rd x η1)).bind fun d => (noer (items d)).bind fun ds => .ok (ds, x, d, lock x η1) := rfl
theorem evSrc_lst {cf : CF} {es : List E} {η : Py.Env} : evSrc cf (.lst es) η = (opd (.lst es) (ev cf (.lst es)) η).bind fun (x, η1) => (noer (rd x η1)).bind fun d => (noer (items d)).bind fun ds => .ok (ds, x, d, lock x η1) := rfl
abbrev nN : List Str := [(Str.ofString "NoAsker"), (Str.ofString "NoFirm"), (Str.ofString "NoMember"), (Str.ofString "NoNumber"), (Str.ofString "BadLine"), (Str.ofString "Lost")]
abbrev nW : List Str := [(Str.ofString "NoWord")]
def turnB : List S := [.set 7 (.bin .add (.lc (.att nN (Str.ofString "number") (.v 8)) (.name 8) (.sl (.v 3) (.k (.int 2)) (.k (.int 8))) (.k (.bl true))) (.lst [(.att nW (Str.ofString "word") (.ix (.v 3) (.k (.int 8))))])),
    .if_ (.not (.call 3 false [(.v 7), (.bin .add (.bin .mul (.lst [(.v 5)]) (.k (.int 6))) (.lst [(.v 6)]))])) [.ret (.k (.bl false))] [],
    .if_ (.not (.f1 .all (.lc (.call 6 false [(.v 8), (.v 9)]) (.tup [(.name 9), (.name 8)]) (.enum (.v 3)) (.k (.bl true))))) [.ret (.k (.bl false))] []]
def sixD (x : Int) : List D := [.er (Str.ofString "BadLine") (Str.ofString "number") [.int x], .er (Str.ofString "Lost") (Str.ofString "number") [.int x], .er (Str.ofString "NoAsker") (Str.ofString "number") [.int x],
  .er (Str.ofString "NoFirm") (Str.ofString "number") [.int x], .er (Str.ofString "NoMember") (Str.ofString "number") [.int x], .er (Str.ofString "NoNumber") (Str.ofString "number") [.int x]]
theorem att_six {x : Int} : ∀ d ∈ sixD x, attD nN (Str.ofString "number") d = .ok (.int x) := by
  have a1 : ∀ n, n = Str.ofString "BadLine" ∨ n = Str.ofString "Lost" ∨ n = Str.ofString "NoAsker" ∨ n = Str.ofString "NoFirm" ∨ n = Str.ofString "NoMember" ∨ n = Str.ofString "NoNumber" → attD nN (Str.ofString "number") (.er n (Str.ofString "number") [.int x]) = .ok (.int x) := by
    rintro n (rfl | rfl | rfl | rfl | rfl | rfl) <;> kernel_rfl
  intro d hd
  unfold sixD at hd
  simp only [List.mem_cons, List.not_mem_nil, or_false] at hd
  rcases hd with rfl | rfl | rfl | rfl | rfl | rfl <;> exact a1 _ (by simp)
theorem att_word {t : Str} : attD nW (Str.ofString "word") (.er (Str.ofString "NoWord") (Str.ofString "word") [.str t]) = .ok (.str t) := by kernel_rfl
theorem turn_ok {o7 : Option D} {bx : D} (x : Int) (t : Str) (ht : Th 0 (.str t)) : ∃ y, exs (callN defs 62) [0] turnB [some bx, some (.lst (errsD x t)), some (.lst (errsD x t)), some (.lst (errsD x t)), none, some (.int x), some (.str t), o7, none, none] =
    .ok (.nx [some bx, some (.lst (errsD x t)), some (.lst (errsD x t)), some (.lst (errsD x t)), none, some (.int x), some (.str t), y, none, none]) := by
  have s1 : slD (.lst (errsD x t)) (some 2) (some 8) = .ok (.lst (sixD x)) := by kernel_rfl
  have s2 : ixD (.lst (errsD x t)) (.int 8) = .ok (.er (Str.ofString "NoWord") (Str.ofString "word") [.str t]) := by kernel_rfl
  have s3 : binop .mul (.lst [.int x]) (.int 6) = .ok (.lst [.int x, .int x, .int x, .int x, .int x, .int x]) := by kernel_rfl
  have same : callN defs 62 3 [.lst [.int x, .int x, .int x, .int x, .int x, .int x, .str t], .lst [.int x, .int x, .int x, .int x, .int x, .int x, .str t]] = .ok (.bl true, .non) := same_ok 1 (.lst [.int x, .int x, .int x, .int x, .int x, .int x, .str t]) ⟨by simp, fun y hy => by
    simp only [List.mem_cons, List.not_mem_nil, or_false] at hy
    rcases hy with rfl | rfl | rfl | rfl | rfl | rfl | rfl <;> first | exact ht | exact trivial⟩ 62 (by omega)
  have pl := place_ok x t
  have hl : (errsD x t).length = 10 := rfl
  have en : enumD (.lst (errsD x t)) = .ok ((List.range 10).map fun (j : Nat) => D.tup [.int j, gt (errsD x t) j]) := by rw [enumL, hl]
  have l1 : ∀ z, ev (callN defs 62) (.lc (.att nN (Str.ofString "number") (.v 8)) (.name 8) (.sl (.v 3) (.k (.int 2)) (.k (.int 8))) (.k (.bl true))) [some bx, some (.lst (errsD x t)), some (.lst (errsD x t)), some (.lst (errsD x t)), none, some (.int x), some (.str t), z, none, none] = .ok (.lst [.int x, .int x, .int x, .int x, .int x, .int x], [some bx, some (.lst (errsD x t)), some (.lst (errsD x t)), some (.lst (errsD x t)), none, some (.int x), some (.str t), z, none, none]) := by
    intro z
    have := ev_lcm (cf := callN defs 62) (η := [some bx, some (.lst (errsD x t)), some (.lst (errsD x t)), some (.lst (errsD x t)), none, some (.int x), some (.str t), z, none, none]) (q := .att nN (Str.ofString "number") (.v 8)) (src := .sl (.v 3) (.k (.int 2)) (.k (.int 8))) (t := .name 8) (z := .lst (sixD x)) (z' := .lst (sixD x)) (sixD x) (fun d => d) (fun d => [some bx, some (.lst (errsD x t)), some (.lst (errsD x t)), some (.lst (errsD x t)), none, some (.int x), some (.str t), z, some d, none]) (fun _ => .int x)
      (by
        have e0 : (sixD x).map (fun d => d) = sixD x := List.map_id' _
        rw [e0]
        rw [evSrc_sl]
        generalize errsD x t = L at *
        generalize sixD x = M at *
        simp [opd_x, part_x, s1, items])
      (by simp [tgSlots]) (fun _ _ => rfl) (fun _ _ => rfl) (fun d hd => by
        have := att_six d hd
        simp [this]) (by show 6 ≤ 1000000; omega)
    rw [this]; rfl
  have l2 : ∀ z, ev (callN defs 62) (.lc (.call 6 false [(.v 8), (.v 9)]) (.tup [(.name 9), (.name 8)]) (.enum (.v 3)) (.k (.bl true))) [some bx, some (.lst (errsD x t)), some (.lst (errsD x t)), some (.lst (errsD x t)), none, some (.int x), some (.str t), z, none, none] = .ok (.lst ((List.range 10).map fun _ => .bl true), [some bx, some (.lst (errsD x t)), some (.lst (errsD x t)), some (.lst (errsD x t)), none, some (.int x), some (.str t), z, none, none]) := by
    intro z
    refine ev_lcm (z := .non) (z' := .non) (List.range 10) (fun (j : Nat) => D.tup [.int j, gt (errsD x t) j]) (fun (j : Nat) => [some bx, some (.lst (errsD x t)), some (.lst (errsD x t)), some (.lst (errsD x t)), none, some (.int x), some (.str t), z, some (gt (errsD x t) j), some (.int j)]) (fun _ => .bl true) ?_ (by simp [tgSlots, tgsSlots]) (fun _ _ => rfl) (fun _ _ => rfl) (fun j hj => ?_) (by decide)
    · generalize errsD x t = L at *
      simp [evSrc_enum, en]
    · have := pl j (List.mem_range.mp hj)
      generalize gt (errsD x t) j = E0 at *
      generalize errsD x t = L at *
      simp [opd_x, this]
  have al : f1D .all (.lst ((List.range 10).map fun _ => D.bl true)) = .ok (.bl true) := Eq.trans rfl rfl
  refine ⟨some (.lst [.int x, .int x, .int x, .int x, .int x, .int x, .str t]), ?_⟩
  have w1 := @att_word t
  have c1 : binop .add (.lst [.int x, .int x, .int x, .int x, .int x, .int x]) (.lst [.str t]) = .ok (.lst [.int x, .int x, .int x, .int x, .int x, .int x, .str t]) := by kernel_rfl
  generalize (List.range 10).map (fun _ => D.bl true) = BB at *
  generalize hE : errsD x t = L at *
  generalize callN defs 62 = cf at *
  simp [turnB, opd_x, ev_f1x, l1, s2, w1, c1, s3, same, l2, al]
end Ln
set_option Elab.async false
set_option linter.all false
set_option maxRecDepth 100000
set_option maxHeartbeats 4000000
namespace Ln
open PySem PySem.Spec PyProof.Rows L2 Py
theorem pow18 : binop .pow (.int 10) (.int 18) = .ok (.int 1000000000000000000) := Eq.trans rfl rfl
theorem f1_bl {b : Bool} : f1D .int (.bl b) = .ok (.int (if b then 1 else 0)) := Eq.trans rfl rfl
theorem f1_abs {i : Int} : f1D .abs (.int i) = .ok (.int (if i < 0 then -i else i)) := Eq.trans rfl rfl
theorem box_ok {n k : Nat} {cs : List Int} (h : k < cs.length) (hl : cs.length ≤ 3) : ∃ b, callN defs (n + 1) 0 [.lst (nums cs), .int k] = .ok (b, .non) ∧ Bx 0 b := by
  have e1 : ixD (.lst (nums cs)) (.int k) = .ok (.int (cs.getD k 0)) := by
    rw [ixD_lst (by rw [nums_len]; exact h), gt_nums h]
  generalize cs.getD k 0 = x at *
  have hk : ((k : Int) < ((nums cs).length : Nat)) := by rw [nums_len]; omega
  have e2 : binop .mod (.int x) (.int 2305843009213693951) = .ok (.int (x % 2305843009213693951)) := bin_mod (by omega)
  have e3 : binop .mul (.int 39373) (.int k) = .ok (.int (39373 * k)) := bin_mul (.inl (small_ok (by omega) (by omega)))
  have e4 : ∀ b : Bool, binop .mul (.int (if x < 0 then -x else x)) (.int (if b then 1 else 0)) = .ok (.int ((if x < 0 then -x else x) * (if b then 1 else 0))) := fun b => bin_mul (.inr (by cases b <;> exact small_ok (by decide) (by decide)))
  generalize hy : (if x < 0 then -x else x) = y at *
  have y0 : 0 ≤ y := by subst hy; split <;> omega
  have m0 := Int.emod_nonneg x (show (2305843009213693951 : Int) ≠ 0 by omega)
  have m1 := Int.emod_lt_of_pos x (show (0 : Int) < 2305843009213693951 by omega)
  refine ⟨box (y * (if decide (1000000000000000000 ≤ y) = true then 1 else 0)) (x % 2305843009213693951 + 39373 * k + 1929000) 0, ?_, _, _, _, rfl, ?_, by omega, by omega, by omega, by omega⟩
  · refine call_rt rfl rfl rfl ?_
    generalize callN defs n = cf
    have e5 := e4 (decide (1000000000000000000 ≤ y))
    have e6 := cmp_ge (a := y) (b := 1000000000000000000)
    generalize decide (1000000000000000000 ≤ y) = bb at *
    simp [d_law_box, startE, opd_x, ev_f1x, cmp_lt, hk, e1, f1_abs, hy, pow18, e6, f1_bl, e5, e2, e3, box]
  · split <;> omega
theorem cells_turn {n i : Nat} {w5 : Option D} {xs : List D} {cs : List Int} {x : Int} (hc : cs.length = 3) (hi : i < 64) : ∃ cs' y5, exs (callN defs n) [2] [.set 5 (.bin .mod (.f1 .int (.v 3)) (.v 1)),
    .put 2 (.v 5) (.bin .add (.ix (.p 2) (.v 5)) (.bin .mul (.v 4) (.bin .add (.v 3) (.k (.int 2)))))] [some (.fz xs), some (.int 3), some (.lst (nums cs)), some (.int i), some (.int x), w5] = .ok (.nx [some (.fz xs), some (.int 3), some (.lst (nums cs')), some (.int i), some (.int x), y5]) ∧ cs'.length = 3 := by
  have e1 : binop .mod (.int i) (.int 3) = .ok (.int (i % 3 : Nat)) := bin_mod (by omega)
  have lt : i % 3 < 3 := Nat.mod_lt _ (by omega)
  have hn : i % 3 < (nums cs).length := by rw [nums_len]; omega
  have e2 : ixD (.lst (nums cs)) (.int (i % 3 : Nat)) = .ok (.int (cs.getD (i % 3) 0)) := by rw [ixD_lst hn, gt_nums (by omega)]
  have e3 : ∀ y, binop .mul (.int y) (.int (i + 2)) = .ok (.int (y * (i + 2))) := fun y => bin_mul (.inr (small_ok (by omega) (by omega)))
  have e4 : ∀ y, putK (.lst (nums cs)) (.int (i % 3 : Nat)) (.int y) = .ok (.lst (nums (cs.set (i % 3) y))) := fun y => by
    show (match ixN (nums cs).length ((i % 3 : Nat) : Int) with
      | some n => R.ok (D.lst ((nums cs).set n (.int y)))
      | none => .st) = _
    rw [ixN_nat hn]
    show R.ok (D.lst _) = _
    unfold nums
    rw [List.map_set]
  have f1 : f1D .int (.int i) = .ok (.int i) := Eq.trans rfl rfl
  generalize i % 3 = j at *
  refine ⟨cs.set j (cs.getD j 0 + x * (i + 2)), some (.int j), ?_, by rw [List.length_set]; exact hc⟩
  generalize callN defs n = cf at *
  simp [opd_x, ev_f1x, f1, e1, e2, e3, e4]
theorem cells_ok {n : Nat} {ns : List Int} (hl : ns.length ≤ 63) : ∃ cs, callN defs (n + 1) 2 [.fz (nums ns), .int 3] = .ok (.lst (nums cs), .non) ∧ 0 < cs.length ∧ cs.length ≤ 3 := by
  have s1 : slD (.fz (nums ns)) none (some 3) = .ok (.lst (nums (ns.take 3))) := by
    show R.ok (D.lst (cutD (nums ns) none (some ((3 : Nat) : Int)))) = _
    rw [cut_to, nums_take]
  obtain ⟨ys, s2, ly⟩ : ∃ ys : List D, slD (.fz (nums ns)) (some 3) (some 63) = .ok (.lst ys) ∧ (ys.length ≤ 63 ∧ (ns.length ≤ 3 → ys = []) ∧ ∀ y ∈ ys, ∃ i, y = .int i) := by
    refine ⟨Py.cutD (nums ns) (some 3) (some 63), rfl, ?_, fun z => ?_, fun y hy => ?_⟩
    · unfold Py.cutD
      rw [List.length_take, List.length_drop, nums_len]; omega
    · have e := cut_from (nums ns) 3
      have e2 : (nums ns).drop 3 = [] := List.drop_eq_nil_of_le (by rw [nums_len]; exact z)
      rw [e2] at e
      unfold Py.cutD at e ⊢
      have l := congrArg List.length e
      rw [List.length_take, List.length_drop, List.length_nil] at l
      apply List.eq_nil_of_length_eq_zero
      rw [List.length_take, List.length_drop]
      have h1 : HT.sIx (nums ns).length 0 (some ((3 : Nat) : Int)) = HT.sIx (nums ns).length 0 (some 3) := rfl
      rw [h1] at l
      have h2 : HT.sIx (nums ns).length (nums ns).length none = (nums ns).length := rfl
      rw [h2] at l
      omega
    · unfold Py.cutD at hy
      have := List.mem_of_mem_drop (List.mem_of_mem_take hy)
      obtain ⟨i, _, e⟩ := List.mem_map.mp this
      exact ⟨i, e.symm⟩
  have s3 : ∀ cs : List Int, ∀ own, exs (callN defs n) own [.own 2 (.or (.f1 .list (.sl (.v 0) .no (.v 1))) (.lst [(.k (.int 0))]))] [some (.fz (nums ns)), some (.int 3), none, none, none, none] = .ok (.nx [some (.fz (nums ns)), some (.int 3), some (.lst (nums (if ns = [] then [0] else ns.take 3))), none, none, none]) := fun cs own => by
    generalize callN defs n = cf
    cases ns with
    | nil =>
      have : slD (.fz []) none (some 3) = .ok (.lst []) := s1
      have t0 : truth (.lst []) = .ok false := Eq.trans rfl rfl
      simp [opd_x, part_x, ev_f1x, this, nums, t0]
    | cons a l =>
      have : slD (.fz (nums (a :: l))) none (some 3) = .ok (.lst (nums (a :: l.take 2))) := s1
      rw [if_neg (by simp)]
      have e : nums ((a :: l).take 3) = D.int a :: nums (l.take 2) := rfl
      have e2 : nums (a :: l.take 2) = D.int a :: nums (l.take 2) := rfl
      rw [e2] at this
      rw [e]
      generalize nums (a :: l) = X at *
      generalize nums (l.take 2) = Y at *
      have t1 : truth (.lst (D.int a :: Y)) = .ok true := Eq.trans rfl rfl
      simp [opd_x, part_x, ev_f1x, this, t1]
  have s3 := s3 [] [2]
  obtain ⟨cs0, hc0⟩ : ∃ cs : List Int, cs = if ns = [] then [0] else ns.take 3 := ⟨_, rfl⟩
  rw [← hc0] at s3
  have c1 : 0 < cs0.length := by
    rw [hc0]
    split
    · simp
    · next z => rw [List.length_take]; have := List.length_pos_iff.mpr z; omega
  have c2 : cs0.length ≤ 3 := by
    rw [hc0]
    split
    · simp
    · rw [List.length_take]; omega
  have c3 : ys ≠ [] → cs0.length = 3 := fun z => by
    have : ¬ ns.length ≤ 3 := fun w => z (ly.2.1 w)
    rw [hc0, if_neg (fun w => by rw [w] at this; exact this (Nat.zero_le _)), List.length_take]; omega
  obtain ⟨η', e2, i2⟩ := forGo_turns (T := .tup [.name 3, .name 4]) (b := exs (callN defs n) [2] [.set 5 (.bin .mod (.f1 .int (.v 3)) (.v 1)),
    .put 2 (.v 5) (.bin .add (.ix (.p 2) (.v 5)) (.bin .mul (.v 4) (.bin .add (.v 3) (.k (.int 2)))))]) (fun (j : Nat) => .tup [.int j, gt ys j])
    (fun i η => ∃ (cs : List Int) (w3 w4 w5 : Option D), η = [some (.fz (nums ns)), some (.int 3), some (.lst (nums cs)), w3, w4, w5] ∧ cs.length = cs0.length)
    (List.range ys.length) 0 (fun i a hi η ⟨cs, w3, w4, w5, e, k1⟩ => by
      subst e
      have lt := (List.getElem?_eq_some_iff.mp hi).1
      rw [List.length_range] at lt
      rw [List.getElem?_range lt] at hi
      cases hi
      have y0 : ys ≠ [] := fun z => by rw [z] at lt; exact Nat.not_lt_zero _ lt
      obtain ⟨x, hx⟩ := ly.2.2 (gt ys i) (gt_mem lt)
      obtain ⟨cs', y5, e3, l3⟩ := cells_turn (n := n) (i := i) (w5 := w5) (xs := nums ns) (cs := cs) (x := x) (by rw [k1, c3 y0]) (by omega)
      rw [hx]
      exact ⟨_, _, rfl, e3, cs', some (.int i), some (.int x), y5, rfl, by rw [l3, c3 y0]⟩)
    [some (.fz (nums ns)), some (.int 3), some (.lst (nums cs0)), none, none, none] ⟨cs0, none, none, none, rfl, rfl⟩
  obtain ⟨cs, w3, w4, w5, rfl, k1⟩ := i2
  have er : evSrc (callN defs n) (.enum (.sl (.v 0) (.v 1) (.k (.int 63)))) [some (.fz (nums ns)), some (.int 3), some (.lst (nums cs0)), none, none, none] = .ok ((List.range ys.length).map (fun (j : Nat) => .tup [.int j, gt ys j]), .inl .non, .non, [some (.fz (nums ns)), some (.int 3), some (.lst (nums cs0)), none, none, none]) := by
    simp [evSrc_enum, opd_x, part_x, s2, enumL]
  refine ⟨cs, call_rt rfl rfl rfl ?_, by omega, by omega⟩
  have s3' : ex (callN defs n) [2] (.own 2 (.or (.f1 .list (.sl (.v 0) .no (.v 1))) (.lst [(.k (.int 0))]))) [some (.fz (nums ns)), some (.int 3), none, none, none, none] = .ok (.nx [some (.fz (nums ns)), some (.int 3), some (.lst (nums cs0)), none, none, none]) := by
    rw [exs_cons] at s3
    revert s3
    cases ex (callN defs n) [2] (.own 2 (.or (.f1 .list (.sl (.v 0) .no (.v 1))) (.lst [(.k (.int 0))]))) [some (.fz (nums ns)), some (.int 3), none, none, none, none] with
    | ok f => intro z; cases f <;> simpa using z
    | er _ _ => intro z; cases z
    | st => intro z; cases z
  generalize callN defs n = cf at *
  simp [-ex_own, d_law_cells, startE, s3', er, e2]
end Ln
set_option Elab.async false
set_option linter.all false
set_option maxRecDepth 100000
set_option maxHeartbeats 4000000
namespace Ln
open PySem PySem.Spec PyProof.Rows L2 Py
theorem str_th0 : Th 0 (.str (Str.ofString "i")) ∧ Th 0 (.str (Str.ofString "sums")) ∧ Th 0 (.str (Str.ofString "")) := by
  refine ⟨⟨by decide +kernel, by decide +kernel⟩, ⟨by decide +kernel, by decide +kernel⟩, ⟨by decide +kernel, by decide +kernel⟩⟩
theorem right_ok {b : D} (hb : Bx 0 b) : ∃ b', callN defs 63 8 [b] = .ok (.bl true, b') := by
  obtain ⟨v, b1, e1, k1, v0, v1⟩ := take_ok (n := 61) (m := 999) hb (by omega) (by omega) (by omega)
  obtain ⟨d, b2, e2, k2, hd⟩ := of_ok (n := 60) (xs := [.int 1, .int 1000000000000000000000000000]) k1 (by omega) (by simp) (by simp)
  obtain ⟨s, b3, e3, k3, hs⟩ := of_ok (n := 60) (xs := [.str (Str.ofString "i"), .str (Str.ofString "sums"), .str (Str.ofString "")]) k2 (by omega) (by simp) (by simp)
  obtain ⟨t, rfl, ht⟩ : ∃ t, s = .str t ∧ Th 0 (.str t) := by
    obtain ⟨t1, t2, t3⟩ := str_th0
    simp only [List.mem_cons, List.not_mem_nil, or_false] at hs
    rcases hs with rfl | rfl | rfl
    · exact ⟨_, rfl, t1⟩
    · exact ⟨_, rfl, t2⟩
    · exact ⟨_, rfl, t3⟩
  obtain ⟨k, rfl⟩ : ∃ k, d = .int k := by
    simp only [List.mem_cons, List.not_mem_nil, or_false] at hd
    rcases hd with rfl | rfl
    · exact ⟨_, rfl⟩
    · exact ⟨_, rfl⟩
  have m1 : binop .mul (.int (v - 400)) (.int k) = .ok (.int ((v - 400) * k)) := bin_mul (.inl (small_ok (by omega) (by omega)))
  generalize hx : (v - 400) * k = x at *
  have ca := caught_ok x t ht
  obtain ⟨y1, f1⟩ := turn_ok (bx := b3) (o7 := none) x t ht
  obtain ⟨y2, f2⟩ := turn_ok (bx := b3) (o7 := y1) x t ht
  have sm : callN defs 62 3 [.int 1000000000000000000000000000000, .int 1000000000000000000000000000000] = .ok (.bl true, .non) := same_int
  have p27 := pow27
  have p30 := pow30
  have af : attD nN (Str.ofString "number") (.er (Str.ofString "Lost") (Str.ofString "number") [.int 1000000000000000000000000000000]) = .ok (.int 1000000000000000000000000000000) := by kernel_rfl
  have g1 : ∀ z4 z7 : Option D, ex (callN defs 62) [0] (.for_ (.name 3) (.lst [(.v 1), (.v 2)]) turnB) [some b3, some (.lst (errsD x t)), some (.lst (errsD x t)), none, none, some (.int x), some (.str t), none, none, none] = .ok (.nx [some b3, some (.lst (errsD x t)), some (.lst (errsD x t)), some (.lst (errsD x t)), none, some (.int x), some (.str t), y2, none, none]) := by
    intro _ _
    rw [ex_for, evSrc_lst]
    generalize callN defs 62 = cf at *
    generalize errsD x t = L at *
    generalize turnB = TB at *
    simp [opd_x, items, forGo, f1, f2, loopK]
  have g1 := g1 none none
  refine ⟨b3, call_mt rfl rfl rfl ?_⟩
  have hb : d_law_right.body = [.par [(5, false), (6, false)] [(.bin .mul (.bin .sub (.call 1 true [(.p 0), (.k (.int 999))]) (.k (.int 400))) (.call 4 true [(.p 0), (.lst [(.k (.int 1)), (.bin .pow (.k (.int 10)) (.k (.int 27)))])])), (.call 4 true [(.p 0), (.lst [(.k (.str (Str.ofString "i"))), (.k (.str (Str.ofString "sums"))), (.k (.str (Str.ofString "")))])])],
    .set 1 (.lst [(.mk0 (Str.ofString "Unfit")), (.mk0 (Str.ofString "BadText")), (.mk1 (Str.ofString "BadLine") (Str.ofString "number") (.v 5)), (.mk1 (Str.ofString "Lost") (Str.ofString "number") (.v 5)), (.mk1 (Str.ofString "NoAsker") (Str.ofString "number") (.v 5)), (.mk1 (Str.ofString "NoFirm") (Str.ofString "number") (.v 5))]),
    .set 1 (.bin .add (.v 1) (.lst [(.mk1 (Str.ofString "NoMember") (Str.ofString "number") (.v 5)), (.mk1 (Str.ofString "NoNumber") (Str.ofString "number") (.v 5)), (.mk1 (Str.ofString "NoWord") (Str.ofString "word") (.v 6)), (.mk0 (Str.ofString "NothingDone"))])),
    .set 2 (.lst [(.mk0 (Str.ofString "Unfit")), (.mk0 (Str.ofString "BadText")), (.mk1 (Str.ofString "BadLine") (Str.ofString "number") (.v 5)), (.mk1 (Str.ofString "Lost") (Str.ofString "number") (.v 5)), (.mk1 (Str.ofString "NoAsker") (Str.ofString "number") (.v 5))]),
    .set 2 (.bin .add (.v 2) (.lst [(.mk1 (Str.ofString "NoFirm") (Str.ofString "number") (.v 5)), (.mk1 (Str.ofString "NoMember") (Str.ofString "number") (.v 5)), (.mk1 (Str.ofString "NoNumber") (Str.ofString "number") (.v 5))])),
    .set 2 (.bin .add (.v 2) (.lst [(.mk1 (Str.ofString "NoWord") (Str.ofString "word") (.v 6)), (.mk0 (Str.ofString "NothingDone"))])),
    .for_ (.name 3) (.lst [(.v 1), (.v 2)]) turnB,
    .set 4 (.mk1 (Str.ofString "Lost") (Str.ofString "number") (.bin .pow (.k (.int 10)) (.k (.int 30)))),
    .ret (.and (.call 7 false [(.v 5), (.v 6)]) (.call 3 false [(.att nN (Str.ofString "number") (.v 4)), (.bin .pow (.k (.int 10)) (.k (.int 30)))]))] := rfl
  have ho : d_law_right.own = [0] := rfl
  have hs : startE d_law_right.N.length [b] = [some b, none, none, none, none, none, none, none, none, none] := rfl
  rw [hb, ho, hs]
  have i1 : ∀ xs ys : List D, xs.length + ys.length ≤ 1000000 → binop .add (.lst xs) (.lst ys) = .ok (.lst (xs ++ ys)) := fun xs ys h => bin_catL h
  generalize callN defs 62 = cf at *
  generalize turnB = TB at *
  have hE : errsD x t = [.er (Str.ofString "Unfit") (Str.ofString "") [], .er (Str.ofString "BadText") (Str.ofString "") [], .er (Str.ofString "BadLine") (Str.ofString "number") [.int x], .er (Str.ofString "Lost") (Str.ofString "number") [.int x], .er (Str.ofString "NoAsker") (Str.ofString "number") [.int x],
  .er (Str.ofString "NoFirm") (Str.ofString "number") [.int x], .er (Str.ofString "NoMember") (Str.ofString "number") [.int x], .er (Str.ofString "NoNumber") (Str.ofString "number") [.int x], .er (Str.ofString "NoWord") (Str.ofString "word") [.str t], .er (Str.ofString "NothingDone") (Str.ofString "") []] := rfl
  rw [hE] at g1
  simp [-ex_for, opd_x, e1, e2, e3, p27, p30, m1, hx, i1, g1, ca, af, sm]
theorem law_ok (ns : List Int) (hl : ns.length ≤ 63) : ∃ o, callN defs 64 9 [.fz (ns.map D.int)] = .ok (.bl true, o) := by
  obtain ⟨cs, e1, h0, h2⟩ := cells_ok (n := 62) hl
  have l1 := ev_lcm (cf := callN defs 63) (η := [some (.fz (nums ns)), some (.lst (nums cs)), none]) (q := .callb 8 0 [(.v 1), (.v 2)]) (src := .rg1 (.f1 .len (.v 1))) (t := .name 2) (z := .non) (z' := .non) (List.range cs.length) (fun (j : Nat) => .int j) (fun (j : Nat) => [some (.fz (nums ns)), some (.lst (nums cs)), some (.int j)]) (fun _ => .bl true)
    (by
      have := rng0 (n := (nums cs).length) (by rw [nums_len]; omega)
      rw [nums_len] at this
      simp [evSrc_rg1, ev_f1x, opd_x, nums_len, this]) (by simp [tgSlots]) (fun _ _ => rfl) (fun _ _ => rfl) (fun j hj => by
      obtain ⟨b, e2, hb⟩ := box_ok (n := 62) (k := j) (cs := cs) (List.mem_range.mp hj) h2
      obtain ⟨b', e3⟩ := right_ok hb
      generalize callN defs 63 = cf at *
      simp [opd_x, e2, e3]) (by rw [List.length_range]; omega)
  have al : f1D .all (.lst ((List.range cs.length).map fun _ => D.bl true)) = .ok (.bl true) := by
    have z : ((List.range cs.length).all fun _ => true) = true := List.all_eq_true.mpr fun _ _ => rfl
    rw [all_map (fun _ => true) (List.range cs.length), z]
  refine ⟨.non, call_rt rfl rfl rfl ?_⟩
  have e0 : ns.map D.int = nums ns := rfl
  rw [e0]
  generalize callN defs 63 = cf at *
  simp [d_law, startE, ev_f1x, opd_x, e1, l1, al]
end Ln
set_option Elab.async false
set_option linter.all false
set_option maxRecDepth 100000
set_option maxHeartbeats 0
namespace Ln
open PySem PySem.Spec PyProof.Rows L2 Py
def top (i : Nat) : Stmt := PySem.Challenge.pw_whomheeds_k00_errors_made_by_hand.main.body.getD i (.Pass ⟨0, 0, 0, 0⟩)
def mth (i j : Nat) : Stmt := match top i with
  | .ClassDef _ _ _ b _ _ _ _ _ _ _ => b.getD j (.Pass ⟨0, 0, 0, 0⟩)
  | st => st
def dOf (x : Str) (st : Stmt) : He.DefD := ⟨(x, none), x, x, defArgs st, defBody st, defScope st, [], []⟩
def fn : List He.DefD := [dOf "_law_box" (top 12), dOf "_law_take" (top 13), dOf "_law_cells" (top 14), dOf "_law_same" (top 15), dOf "_law_of" (top 16), dOf "_law_which" (top 17), dOf "_law_place_right" (top 18), dOf "_law_caught" (top 19), dOf "_law_right" (top 20), dOf "law" (top 21)]
def e_NoAsker : ErC := ⟨"NoAsker", "number", true, ⟨("NoAsker", some ("__init__" : Str)), "__init__", "NoAsker.__init__", defArgs (mth 1 0), defBody (mth 1 0), defScope (mth 1 0), [], []⟩⟩
def e_NoFirm : ErC := ⟨"NoFirm", "number", true, ⟨("NoFirm", some ("__init__" : Str)), "__init__", "NoFirm.__init__", defArgs (mth 2 0), defBody (mth 2 0), defScope (mth 2 0), [], []⟩⟩
def e_NoMember : ErC := ⟨"NoMember", "number", true, ⟨("NoMember", some ("__init__" : Str)), "__init__", "NoMember.__init__", defArgs (mth 3 0), defBody (mth 3 0), defScope (mth 3 0), [], []⟩⟩
def e_NoNumber : ErC := ⟨"NoNumber", "number", true, ⟨("NoNumber", some ("__init__" : Str)), "__init__", "NoNumber.__init__", defArgs (mth 4 0), defBody (mth 4 0), defScope (mth 4 0), [], []⟩⟩
def e_NoWord : ErC := ⟨"NoWord", "word", true, ⟨("NoWord", some ("__init__" : Str)), "__init__", "NoWord.__init__", defArgs (mth 5 0), defBody (mth 5 0), defScope (mth 5 0), [], []⟩⟩
def e_BadLine : ErC := ⟨"BadLine", "number", false, ⟨("BadLine", some ("__init__" : Str)), "__init__", "BadLine.__init__", defArgs (mth 7 0), defBody (mth 7 0), defScope (mth 7 0), [], []⟩⟩
def e_Lost : ErC := ⟨"Lost", "number", false, ⟨("Lost", some ("__init__" : Str)), "__init__", "Lost.__init__", defArgs (mth 9 0), defBody (mth 9 0), defScope (mth 9 0), [], []⟩⟩
def er : List ErC := [e_NoAsker, e_NoFirm, e_NoMember, e_NoNumber, e_NoWord, e_BadLine, e_Lost]
def ez : List ErZ := [⟨"NothingDone", true⟩, ⟨"BadText", false⟩, ⟨"Unfit", false⟩]
def kw : List (Nat × List Str × List Nat) := []
def prog : Prog := ⟨defs, fn, er, kw, ez⟩
def fa : List He.Fa := (defs.map fun d => He.Fa.glo d.name) ++ (bltL.map He.Fa.free) ++ [.free (Str.ofString "LookupError"), .free (Str.ofString "ValueError"), .free (Str.ofString "KeyError"), .free (Str.ofString "IndexError")]
def fn2 : List He.DefD := er.map (·.init)
abbrev R : PySem.W.OpenRow := PySem.W.OpenLaw.row PySem.Challenge.rw_whomheeds_k00_errors_made_by_hand
abbrev hk : PySem.W.Hook := hookX 6 fa (fn ++ fn2) er ez
def ob (s : PySem.W.SharedT) : AlX := obsXG 6 fa (fn ++ fn2) er ez (HandSHeadRun.getT s)
theorem ob_eq (s : PySem.W.SharedT) : ob s = hk.obs s.abs := obsXG_eq (HandSHeadRun.getT_eq s)
def names : List PySem.Str := ([(PySem.Str.ofString "NoAsker"), (PySem.Str.ofString "NoFirm"), (PySem.Str.ofString "NoMember"), (PySem.Str.ofString "NoNumber"), (PySem.Str.ofString "NoWord"), (PySem.Str.ofString "NothingDone"), (PySem.Str.ofString "BadLine"), (PySem.Str.ofString "BadText"), (PySem.Str.ofString "Lost"), (PySem.Str.ofString "Unfit"), (PySem.Str.ofString "_law_box"), (PySem.Str.ofString "_law_take"), (PySem.Str.ofString "_law_cells"), (PySem.Str.ofString "_law_same"), (PySem.Str.ofString "_law_of"), (PySem.Str.ofString "_law_which"), (PySem.Str.ofString "_law_place_right"), (PySem.Str.ofString "_law_caught"), (PySem.Str.ofString "_law_right")] : List PySem.Str)
theorem run (w : World) : HandSHeadRun.RunEq R (PySem.W.view R.prog [21]) hk ob 6000 names w := by
  intro os
  kernel_rfl
theorem lks : (prog.defs.zip prog.fn).all (fun q => linkB prog q.1 q.2) = true := by decide +kernel
theorem binds {K : PySem.W.Frag} : ∀ (i : Nat) (d : Def) (dd : He.DefD), prog.defs[i]? = some d → prog.fn[i]? = some dd → ∀ fd, FunD K dd.name dd.qual dd.params dd.body dd.scope (dd.dvs K) (dd.kws K) (He.fAd K dd.at_) fd → Binds K fd (d.N.take d.np) [] ∧ ∀ ks ord, (i, ks, ord) ∈ prog.kw → KwB K fd (d.N.take d.np) ks ord := by
  intro i d dd e1 e2 fd F
  match i, e1, e2 with
  | 0, e1, e2 =>
    cases e1
    cases e2
    refine ⟨FunD.bindsN F fun _ _ _ _ _ _ us hl => (match us, hl with | [_, _], _ => rfl), fun ks ord hk => ?_⟩
    exact absurd hk (by simp [prog, kw])
  | 1, e1, e2 =>
    cases e1
    cases e2
    refine ⟨FunD.bindsN F fun _ _ _ _ _ _ us hl => (match us, hl with | [_, _], _ => rfl), fun ks ord hk => ?_⟩
    exact absurd hk (by simp [prog, kw])
  | 2, e1, e2 =>
    cases e1
    cases e2
    refine ⟨FunD.bindsN F fun _ _ _ _ _ _ us hl => (match us, hl with | [_, _], _ => rfl), fun ks ord hk => ?_⟩
    exact absurd hk (by simp [prog, kw])
  | 3, e1, e2 =>
    cases e1
    cases e2
    refine ⟨FunD.bindsN F fun _ _ _ _ _ _ us hl => (match us, hl with | [_, _], _ => rfl), fun ks ord hk => ?_⟩
    exact absurd hk (by simp [prog, kw])
  | 4, e1, e2 =>
    cases e1
    cases e2
    refine ⟨FunD.bindsN F fun _ _ _ _ _ _ us hl => (match us, hl with | [_, _], _ => rfl), fun ks ord hk => ?_⟩
    exact absurd hk (by simp [prog, kw])
  | 5, e1, e2 =>
    cases e1
    cases e2
    refine ⟨FunD.bindsN F fun _ _ _ _ _ _ us hl => (match us, hl with | [_], _ => rfl), fun ks ord hk => ?_⟩
    exact absurd hk (by simp [prog, kw])
  | 6, e1, e2 =>
    cases e1
    cases e2
    refine ⟨FunD.bindsN F fun _ _ _ _ _ _ us hl => (match us, hl with | [_, _], _ => rfl), fun ks ord hk => ?_⟩
    exact absurd hk (by simp [prog, kw])
  | 7, e1, e2 =>
    cases e1
    cases e2
    refine ⟨FunD.bindsN F fun _ _ _ _ _ _ us hl => (match us, hl with | [_, _], _ => rfl), fun ks ord hk => ?_⟩
    exact absurd hk (by simp [prog, kw])
  | 8, e1, e2 =>
    cases e1
    cases e2
    refine ⟨FunD.bindsN F fun _ _ _ _ _ _ us hl => (match us, hl with | [_], _ => rfl), fun ks ord hk => ?_⟩
    exact absurd hk (by simp [prog, kw])
  | 9, e1, e2 =>
    cases e1
    cases e2
    refine ⟨FunD.bindsN F fun _ _ _ _ _ _ us hl => (match us, hl with | [_], _ => rfl), fun ks ord hk => ?_⟩
    exact absurd hk (by simp [prog, kw])
  | j + 10, e1, e2 => exact absurd e1 (by simp [prog, defs])
theorem txts : ∀ e ∈ prog.er, e.txt ∧ e.init ∈ fn2 := by
  intro e he
  refine ⟨?_, List.mem_map.mpr ⟨e, he, rfl⟩⟩
  have he : e = e_NoAsker ∨ e = e_NoFirm ∨ e = e_NoMember ∨ e = e_NoNumber ∨ e = e_NoWord ∨ e = e_BadLine ∨ e = e_Lost := by simpa [prog, er] using he
  rcases he with rfl | rfl | rfl | rfl | rfl | rfl | rfl
  all_goals exact ⟨rfl, rfl, rfl, rfl, rfl, ⟨_, _, rfl⟩, ⟨_, _, _, _, rfl⟩, by first | exact .inl rfl | exact .inr rfl, by decide +kernel⟩
abbrev spLaw (K : PySem.W.Frag) : Sp := SpN (prog.G K) K (callN defs 64) d_law.fr 9 1
theorem facts {P : Program} {w : World} {K : PySem.W.Frag} {h : Heap} {mg : Str → Option Value} (X : K.In h) (G : h.Ns mainGlobals mg) (c : SaysX fa (fn ++ fn2) er ez K) :
    ∃ fd : FuncData, (∀ (s : Shared) (v : Value), BindsTo s fd ⟨[v], []⟩ [("_law_script", v)]) ∧ ∀ base : Heap, FnOk P w K mg base (L2.CX P w) 64 (He.ga K "law") fd ["_law_script"] (spLaw K) := by
  have L : ∀ base : Heap, Linked prog P w K mg base := fun base => linked_of (p := prog) (fn := fn2) X G c rfl lks (fun d hd => by
    refine List.mem_append_left _ (List.mem_append_left _ ?_)
    exact List.mem_map.mpr ⟨d, hd, rfl⟩) (fun x hx => List.mem_append_left _ (List.mem_append_right _ (List.mem_map.mpr ⟨x, hx, rfl⟩))) ⟨by simp [fa], by simp [fa]⟩ ⟨by simp [fa], by simp [fa]⟩ binds txts (tl_none (by rfl))
  obtain ⟨fd, F⟩ := c.d.def_ 9 (d := dOf "law" (top 21)) rfl
  have b := FunD.bindsA (ps := ["_law_script"]) F fun _ _ _ _ _ _ us hl => (match us, hl with | [_], _ => rfl)
  exact ⟨fd, fun s v => b s [v] rfl, fun base => fns_ok (L base) 64 9 d_law _ fd rfl rfl F⟩
end Ln
set_option Elab.async false
set_option linter.all false
set_option maxRecDepth 100000
set_option maxHeartbeats 0
namespace Ln
open PySem PySem.Spec PyProof.Rows L2 Py
theorem goal (ns : List Int) (h : ns.length ≤ 63) : ∃ o, callN defs 64 9 [.fz (ns.map D.int)] = .ok (.bl true, o) := Ln.law_ok ns h
end Ln
open PySem PySem.W PySem.Calls PyProof.Rows
theorem PySem.Challenge.cw_whomheeds_k00_errors_made_by_hand_holds : PySem.Challenge.rw_whomheeds_k00_errors_made_by_hand.Holds := by
  w_on; o_law
  refine HandSHeadRun.head_any (r := Ln.R) (q := view Ln.R.prog [21]) (H := Ln.hk) (ob := Ln.ob) (M := 6000) (loose := Ln.names) (d := HandSHeadRun.topDef Ln.R.prog 21) (kwd := []) Ln.ob_eq
    (by kernel_rfl) (fun s => by kernel_rfl) Ln.run (by kernel_rfl) (by kernel_rfl) (by kernel_rfl) (by rfl) (by first | assumption | decide +kernel) (by decide +kernel) ⟨rfl, rfl, rfl, rfl, rfl, by decide +kernel⟩ ?hw ?hc
  case hw => w_witness2
  case hc =>
    refine L2.walk_ofE (l := PySem.Challenge.rw_whomheeds_k00_errors_made_by_hand) (n := 63) (k := 64) (x := "_law_script") (CX := L2.CX0) rfl (by decide) (by kernel_rfl) ⟨rfl, by decide, by decide⟩ ?F (fun _ _ _ _ z => z)
    intro w mg fa h Y G hmg0
    obtain ⟨K, KX, c⟩ := Y
    have hmg : mg ("law" : PySem.Str) = some (.ref fa) := by
      have e : (HandSHeadRun.topDef Ln.R.prog 21).name = ("law" : PySem.Str) := by kernel_rfl
      rw [← e]
      exact hmg0
    obtain ⟨fd, hb, hF⟩ := Ln.facts (P := (PySem.Challenge.rw_whomheeds_k00_errors_made_by_hand).prog) (w := w) KX G c
    have e := hmg.symm.trans (He.glo_ok KX G (c.d.fact 9 (f := .glo "law") rfl))
    cases e
    exact ⟨K, fd, _, KX, hb, fun H a ns hl hO hS => (by
      obtain ⟨o, ho⟩ := Ln.goal ns hl
      exact Py.law_sp hO hl hS ho), fun base _ _ => Py.fn_calm (hF base)⟩
